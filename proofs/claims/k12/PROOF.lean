import PyProof.Rows.All
import Wide.All
import OpenK.AllK
import Wide.FinOn
import HandS.ForMost
import HandS.IsInst
import PyProof.ReprRoads
import HandS.Evl
import HandS.Walk
import HandS.Conv
import HandS.TupAny
import HandS.Deep
import HandS.SortInts
import HandS.Dict
import HandS.More
import HandS.Style
import HandS.SetFor
import PyProof.ReprLen
import PyProof.FitsInt
import HandS.Iter
import HandS.Zip
import HandS.ForExc
import Open.SpecLaws
import KE.OsGo
import KE.DataCmp
import KE.SortData
import HandS.Wide
import HandS.Gcd
import KE.KRevSl
import PySem.Challenge.RW_wayrows_k12_numbers_of_ways
set_option Elab.async false
set_option linter.all false
set_option maxRecDepth 100000
/-! repr of data, and the law's own def run at the caller's own surroundings (where no repr is under way) -/
namespace WR
open PySem PySem.Spec PyProof.Rows L2

section
variable {X : Cx}
/-- repr(x), x a list or tuple of data -/
def rReprD (K : PySem.W.Frag) : List V → Hp → VK → Prop := fun xs H Q =>
  ∃ (a : Addr) (d : PyData), xs = [.ref a] ∧ Dp K H (.ref a) d ∧ d.showable = true ∧ d.hasDict = false ∧ d.shown.length ≤ sizeLine ∧ d.depth ≤ 40 ∧ Q (.str d.shown) H
theorem call_reprD (hg : X.A.guards = some []) (hu : X.A.units + 64 < cLine) : CallR X (.builtin "repr") (rReprD X.K) := by
  intro pins s σ H xs us Q I r h
  obtain ⟨a, d, rfl, hd, hs, hn, hz, hdp, q⟩ := h
  obtain ⟨u, rfl, rfl⟩ := vals1 r
  obtain ⟨as, rd⟩ := Dp.reads I d _ _ hd rfl
  refine repr_of_reads' rd hs (fun z => ?_) hg (by omega) (fun b o e => e) (fun h' t tk hk => ?_) hz
  · rw [hn] at z
    cases z
  · exact ⟨.str d.shown, H, I.kept hk, ⟨t, rfl⟩, q⟩
end
end WR
set_option Elab.async false
set_option linter.all false
set_option maxRecDepth 100000
/-! the law's own def, run at callerA alone: there nothing is being shown by repr, so repr may be called in it -/
namespace WR
open PySem PySem.Spec PyProof.Rows L2

/-- the promise of the law's own def, at the law's caller alone -/
def RunsG (P : Program) (w : World) (K : PySem.W.Frag) (mg : Str → Option Value) (base : Heap)
    (fa : Addr) (fd : FuncData) (x : Str) (sp : Sp) : Prop :=
  ∀ (s : Shared) (H : Hp) (u : Value) (v : V) (Q : VK), Env0 P w K mg base callerA [] s H →
    BindsTo s fd ⟨[u], []⟩ [(x, u)] → RelV v u → sp [v] H Q (fun _ _ _ => False) →
    codeAny (model P w) callerA (.call (.ref fa) ⟨[u], []⟩) (CR CX0 [] P w H s Q (fun _ _ _ => False)) s

section
variable {P : Program} {w : World} {K : PySem.W.Frag} {mg : Str → Option Value} {base : Heap}
theorem runsG_of {q : Str} {st : Stmt} {f : Addr} {fd : FuncData} {N : List Str} {x : Str} {k : Nat} {sp : Sp}
    (F : Fun K q q st f fd) (S : FnScope N [x] (defScope st)) (hk : Room (k + 1) callerA)
    (body : ∀ (cdv : Value) (s : Shared) (H : Hp) (v : V) (Q : VK),
      Room k (callerA.deeper (envOfC q (defScope st) s.heap.objs.size f cdv)) → sp [v] H Q (fun _ _ _ => False) →
      ∃ t, PSs (cxOf CX0 P w K mg base N q (defScope st) f cdv callerA [] s H (fun _ _ _ => False)).nox (defBody st) t ∧
        t { nx := fun _ H' => Q .non H', rt := Q } (start N [v]) H) :
    RunsG P w K mg base f fd x sp := by
  intro s H u v Q e0 hb rv hsp
  obtain ⟨oc, od, kV, doc, pm, an, cdv, ct, osl, rfl, lk, hcd⟩ := F.ex
  have inn : K.In s.heap :=
    e0.mod.kin.keeps fun b o e => (e0.bs b o e).1
  have nol : s.heap.NoLimit :=
    e0.mod.nolimit.keeps fun b o e => (e0.bs b o e).1
  have kinds : ∀ y ∈ [(x, u)], (defScope st).names.lookup y.1 = some .local ∨
      ((defScope st).names.lookup y.1 = some .cell ∧
        ((cellsFrom (s.heap.objs.size + 1) (defScope st).names []).lookup y.1).isSome = true) := by
    intro y hy
    rw [List.mem_singleton] at hy
    subst hy
    cases S.par x (List.mem_singleton.mpr rfl) with
    | inl z => exact .inl z
    | inr z => exact .inr ⟨z, PySem.W.cellsFrom_some _ _ _ (.inl z)⟩
  refine codeAny_call_function hk.depth (inn _ _ lk) rfl S.co S.gen rfl
    (PySem.W.codeRec_of inn hcd) (hb _ _ _ _ ?_)
  refine wpAny_newFunctionEnv_cells S.kind kinds fun env he s1 z => ?_
  subst he
  refine ⟨nol.keeps z.toInCall.keep, codeAny_func ?_⟩
  obtain ⟨t, ht, hq⟩ := body cdv s H v Q (hk.deeper _) hsp
  have J := inv_start (CX := CX0) (E := fun _ _ _ => False) (vs := [v]) (us := [u]) S hk.hd e0 rfl (.cons rv .nil) z
  refine wpAny_mono (ht.nox.run [] s1 (start N [v]) H _ J hq) (fun fl s' hs => ?_) (fun e s' hs => hs)
  cases fl with
  | ret u' =>
    obtain ⟨v', σ', H', I', r', q'⟩ := hs
    exact ⟨v', H', I'.os, I'.bare, I'.base, I'.hok, r', q'⟩
  | next =>
    obtain ⟨σ', H', I', q'⟩ := hs
    exact ⟨V.non, H', I'.os, I'.bare, I'.base, I'.hok, rfl, q'⟩
  | brk =>
    obtain ⟨_, _, _, no⟩ := hs
    exact no.elim
  | cont =>
    obtain ⟨_, _, _, no⟩ := hs
    exact no.elim
end

theorem law_callG {P : Program} {w : World} {K : PySem.W.Frag} {mg mb : Str → Option Value} {fa a : Addr}
    {fd : FuncData} {x : Str} {sp : Sp} {s₁ : Shared} {vs : List Value} {ns : List Int}
    (KX : K.In s₁.heap) (hns : s₁.heap.Ns mainGlobals mg) (hb : s₁.heap.Ns builtinsNs mb)
    (hbb : ∀ x : Str, x ≠ "__name__" → mb x = bootBuiltins x) (hlim : s₁.heap.NoLimit) (hg : s₁.gens = #[])
    (ha : s₁.heap.get? a = some { cls := .type "list", data := .seq vs.toArray }) (hi : IntsAre vs ns)
    (hl : ns.length ≤ sizeLine)
    (F : ∀ base : Heap, K.In base → base.Ns mainGlobals mg → RunsG P w K mg base fa fd x sp)
    (hbind : ∀ (s : Shared) (u : Value), BindsTo s fd ⟨[u], []⟩ [(x, u)])
    (hsp : ∀ H : Hp, Only H → SqL K H a (ns.map V.int) → sp [.ref a] H (fun v _ => v = .bl true) fun _ _ _ => False) :
    codeAny (model P w) callerA (.call (.ref fa) ⟨[.ref a], []⟩)
      (fun r s' => r = .ok (.ret (.bool true)) ∧ OldK s₁.heap s'.heap ∧ s'.os = s₁.os ∧ AllBare s'.gens) s₁ := by
  have main : ∀ H : Hp, Only H → SqL K H a (ns.map V.int) → HOk P w H s₁.heap →
      (∀ b, H b = none ∨ b = a) → (H a = none ∨ K.lookup a = none) →
      codeAny (model P w) callerA (.call (.ref fa) ⟨[.ref a], []⟩)
        (fun r s' => r = .ok (.ret (.bool true)) ∧ OldK s₁.heap s'.heap ∧ s'.os = s₁.os ∧ AllBare s'.gens) s₁ := by
    intro H hO hS hok hA hK
    have dictFree : ∀ {b : Addr} {o : Obj} {es : Array DictEntry} {ep : Nat},
        s₁.heap.get? b = some o → o.data = .dict es ep → H b = none := by
      intro b o es ep e d
      rcases hA b with n | rfl
      · exact n
      · rw [ha] at e
        cases e
        cases (show Data.seq vs.toArray _ = Data.dict es ep from d)
    have nsK : ∀ {b : Addr} {m : Str → Option Value}, s₁.heap.Ns b m → (hidT s₁.heap H).Ns b m :=
      fun {b m} ⟨o, es, ep, e, d, r⟩ => ⟨o, es, ep, hidT_get e (dictFree e d), d, r⟩
    have kinB : K.In (hidT s₁.heap H) := by
      intro b o e
      refine hidT_get (KX b o e) ?_
      rcases hA b with n | rfl
      · exact n
      · rcases hK with n | n
        · exact n
        · rw [n] at e
          cases e
    have modB : Mod K mg (hidT s₁.heap H) := by
      obtain ⟨mc, h1, h2⟩ := hlim
      exact ⟨kinB, nsK hns, ⟨mb, nsK hb, hbb⟩, ⟨mc, nsK h1, h2⟩⟩
    have env : Env0 P w K mg (hidT s₁.heap H) callerA [] s₁ H :=
      ⟨rfl, modB, fun b o e => of_hidT e, Nat.le_of_eq (hidT_size _ _), trivial, (fun b hb => by cases hb), hok, .of_eq hg⟩
    have run := F _ kinB (nsK hns) s₁ H (.ref a) (.ref a) (fun v _ => v = .bl true) env (hbind s₁ (.ref a)) rfl (hsp H hO hS)
    refine codeAny_mono run fun r s' h => ?_
    match r, h with
    | .error e, h => exact (show False from h).elim
    | .ok .next, h => exact (show False from h).elim
    | .ok .brk, h => exact (show False from h).elim
    | .ok .cont, h => exact (show False from h).elim
    | .ok (.ret u), h =>
      obtain ⟨v, H', os, bare, un, hok', rv, qv⟩ := h
      have qv' : v = .bl true := qv
      subst qv'
      have ru : u = Value.bool true := rv
      subst ru
      refine ⟨rfl, OldK.of_keep fun b o e => ?_, os, bare⟩
      rcases hO b with n | ⟨ob, ys, n⟩
      · exact un.keep b o e n (by intro z; cases z) (by simp)
      · obtain ⟨e1, _⟩ := hok b _ n
        obtain ⟨e2, _⟩ := hok' b _ (un.frzs b ob _ n)
        rw [e] at e1
        cases e1
        exact e2
  have rvs : Vals (ns.map V.int) vs := vals_ints hi
  have lenV : vs.length = ns.length := hi.length
  by_cases hk : ∃ o, K.lookup a = some o
  · obtain ⟨o, hk⟩ := hk
    have e := KX a o hk
    rw [ha] at e
    cases e
    refine main (fun _ => none) (fun _ => .inl rfl) (.inr ⟨_, vs.toArray, _, hk, rfl, rfl, rfl, ?_, by simpa using rvs⟩)
      (fun b u z => by cases (show (none : Option HO) = some u from z)) (fun b => .inl rfl) (.inl rfl)
    rw [List.size_toArray, lenV]
    exact hl
  · have hn : K.lookup a = none := by
      cases z : K.lookup a with
      | none => rfl
      | some o => exact absurd ⟨o, z⟩ hk
    let O : HO := .frz { cls := .type "list", data := .seq vs.toArray } (.lst (ns.map V.int))
    refine main (fun b => if b = a then some O else none) (fun b => ?_) (.inl (.inr ⟨_, if_pos rfl⟩)) (fun b u z => ?_)
      (fun b => ?_) (.inr hn)
    · by_cases hb : b = a
      · exact .inr ⟨_, _, if_pos hb⟩
      · exact .inl (if_neg hb)
    · by_cases hb : b = a
      · cases (if_pos hb).symm.trans z
        subst hb
        exact ⟨ha, by rw [List.length_map]; exact hl, vs, _, rvs, ha⟩
      · cases (if_neg hb).symm.trans z
    · by_cases hb : b = a
      · exact .inr hb
      · exact .inl (if_neg hb)

theorem walk_ofG {l : PySem.W.OpenLaw} {n : Nat} {q : Program} {loose : List Str}
    {XP : (Str → Option Value) → Heap → Prop} {YP : World → Heap → Prop} {d : DefRec}
    {K : Params → PySem.W.Frag} {sp : PySem.W.Frag → Sp} {x : Str}
    (hn : l.most = some n) (hn2 : n ≤ sizeLine) (hdf : d.params.defaults = [])
    (hY : ∀ (w : World) (h : Heap), YP w h → (K w.params).In h)
    (F : ∀ (w : World) (mg : Str → Option Value) (fa : Addr) (h : Heap), (K w.params).In h → h.Ns mainGlobals mg →
      mg d.name = some (.ref fa) →
      ∃ fd : FuncData, (∀ (s : Shared) (u : Value), BindsTo s fd ⟨[u], []⟩ [(x, u)]) ∧
        ∀ base : Heap, (K w.params).In base → base.Ns mainGlobals mg →
          RunsG l.prog w (K w.params) mg base fa fd x (sp (K w.params)))
    (hsp : ∀ (K : PySem.W.Frag) (H : Hp) (a : Addr) (ns : List Int), ns.length ≤ n → Only H →
      SqL K H a (ns.map V.int) → sp K [.ref a] H (fun v _ => v = .bl true) fun _ _ _ => False) :
    PySem.W.WalkO q loose XP YP l.row.toRowW d [] (fun f vs => PySem.call f vs) := by
  apply Att.attach_call hn hdf
  intro w s₀ s₁ mg mb fa o pm cd doc a vs ns G Y ho hd hcd hmg hobj hints hlen hg
  have KX := hY w _ Y
  obtain ⟨fd, hb, hF⟩ := F w mg fa _ KX G.T.g hmg
  exact law_callG KX G.T.g G.T.b G.T.builtins G.T.nolimit hg hobj hints (Nat.le_trans hlen hn2) hF hb
    (fun H hO hS => hsp _ H a ns hlen hO hS)
end WR
set_option Elab.async false
set_option linter.all false
set_option maxRecDepth 100000
set_option maxHeartbeats 1000000
/-! readings upon data: what evaluates to which datum, wherever the heap has grown -/
namespace WR
open PySem PySem.Spec PyProof.Rows L2 Evl

/-! ### data in a heap that grows -/
mutual
theorem dp_ex {K : PySem.W.Frag} {H H' : Hp} (e : Ex H H') : ∀ {v : V} (d : PyData), Dp K H v d → Dp K H' v d
  | _, .none, h => by cases h; exact .non
  | _, .bool _, h => by cases h; exact .bl _
  | _, .int _, h => by cases h; exact .int _
  | _, .str _, h => by cases h; exact .str _
  | _, .list ds, h => by
    cases h with
    | lst a b => exact .lst (ex_l e a) (dpAll_ex e ds b)
  | _, .tuple ds, h => by
    cases h with
    | tup a b => exact .tup (ex_t e a) (dpAll_ex e ds b)
  | _, .dict _, h => by cases h
theorem dpAll_ex {K : PySem.W.Frag} {H H' : Hp} (e : Ex H H') : ∀ {vs : List V} (ds : List PyData), DpAll K H vs ds → DpAll K H' vs ds
  | _, [], h => by cases h; exact .nil
  | _, d :: ds, h => by
    cases h with
    | cons a b => exact .cons (dp_ex e d a) (dpAll_ex e ds b)
end
section
variable {K : PySem.W.Frag} {H H' : Hp}
theorem dpAll_len : ∀ {vs : List V} {ds : List PyData}, DpAll K H vs ds → vs.length = ds.length
  | _, [], h => by cases h; rfl
  | _, _ :: _, h => by
    cases h with
    | cons a b => simp [dpAll_len b]
theorem dpAll_at : ∀ {vs : List V} {ds : List PyData} {i : Nat} {v : V}, DpAll K H vs ds → vs[i]? = some v → ∃ d, ds[i]? = some d ∧ Dp K H v d
  | _, [], _, _, h, e => by cases h; simp at e
  | _, _ :: _, 0, _, h, e => by
    cases h with
    | cons a b => exact ⟨_, rfl, by simp at e; rw [← e]; exact a⟩
  | _, _ :: _, i + 1, _, h, e => by
    cases h with
    | cons a b =>
      obtain ⟨d, h1, h2⟩ := dpAll_at (i := i) b (by simpa using e)
      exact ⟨d, by simpa using h1, h2⟩
theorem dpAll_at' : ∀ {vs : List V} {ds : List PyData} {i : Nat} {d : PyData}, DpAll K H vs ds → ds[i]? = some d → ∃ v, vs[i]? = some v ∧ Dp K H v d
  | _, [], _, _, h, e => by simp at e
  | _, _ :: _, 0, _, h, e => by
    cases h with
    | cons a b => exact ⟨_, rfl, by simp at e; rw [← e]; exact a⟩
  | _, _ :: _, i + 1, _, h, e => by
    cases h with
    | cons a b =>
      obtain ⟨v, h1, h2⟩ := dpAll_at' (i := i) b (by simpa using e)
      exact ⟨v, by simpa using h1, h2⟩
theorem dpAll_snoc : ∀ {vs : List V} {ds : List PyData} {v : V} {d : PyData}, DpAll K H vs ds → Dp K H v d → DpAll K H (vs ++ [v]) (ds ++ [d])
  | _, [], _, _, h, a => by cases h; exact .cons a .nil
  | _, _ :: _, _, _, h, a => by
    cases h with
    | cons b c => exact .cons b (dpAll_snoc c a)
theorem dpAll_app : ∀ {vs ws : List V} {ds es : List PyData}, DpAll K H vs ds → DpAll K H ws es → DpAll K H (vs ++ ws) (ds ++ es)
  | _, _, [], _, h, a => by cases h; exact a
  | _, _, _ :: _, _, h, a => by
    cases h with
    | cons b c => exact .cons b (dpAll_app c a)
theorem dpAll_drop : ∀ {vs : List V} {ds : List PyData} (n : Nat), DpAll K H vs ds → DpAll K H (vs.drop n) (ds.drop n)
  | _, _, 0, h => by simpa using h
  | _, [], n + 1, h => by cases h; exact .nil
  | _, _ :: _, n + 1, h => by
    cases h with
    | cons a b => exact dpAll_drop n b
theorem dpAll_take : ∀ {vs : List V} {ds : List PyData} (n : Nat), DpAll K H vs ds → DpAll K H (vs.take n) (ds.take n)
  | _, _, 0, h => .nil
  | _, [], n + 1, h => by cases h; exact .nil
  | _, _ :: _, n + 1, h => by
    cases h with
    | cons a b => exact .cons a (dpAll_take n b)
theorem dpAll_ints : ∀ (ns : List Int), DpAll K H (ns.map V.int) (ns.map PyData.int)
  | [] => .nil
  | _ :: ns => .cons (.int _) (dpAll_ints ns)
theorem dpAll_bls : ∀ (ns : List Bool), DpAll K H (ns.map V.bl) (ns.map PyData.bool)
  | [] => .nil
  | _ :: ns => .cons (.bl _) (dpAll_bls ns)
theorem ints_of : ∀ {vs : List V} {ns : List Int}, DpAll K H vs (ns.map PyData.int) → vs = ns.map V.int
  | _, [], h => by cases h; rfl
  | _, _ :: ns, h => by
    cases h with
    | cons a b => cases a; rw [ints_of b]; rfl
theorem bls_of : ∀ {vs : List V} {ns : List Bool}, DpAll K H vs (ns.map PyData.bool) → vs = ns.map V.bl
  | _, [], h => by cases h; rfl
  | _, _ :: ns, h => by
    cases h with
    | cons a b => cases a; rw [bls_of b]; rfl
theorem dp_tup {v : V} {ds : List PyData} (h : Dp K H v (.tuple ds)) : ∃ a xs, v = .ref a ∧ SqT K H a xs ∧ DpAll K H xs ds := by
  cases h with
  | tup a b => exact ⟨_, _, rfl, a, b⟩
theorem dp_lst {v : V} {ds : List PyData} (h : Dp K H v (.list ds)) : ∃ a xs, v = .ref a ∧ SqL K H a xs ∧ DpAll K H xs ds := by
  cases h with
  | lst a b => exact ⟨_, _, rfl, a, b⟩
theorem dp_int {v : V} {i : Int} (h : Dp K H v (.int i)) : v = .int i := by cases h; rfl
theorem dp_bl {v : V} {i : Bool} (h : Dp K H v (.bool i)) : v = .bl i := by cases h; rfl
theorem dp_non {v : V} (h : Dp K H v .none) : v = .non := by cases h; rfl
end

/-! data without lists and dicts within -/
mutual
def nl : PyData → Bool
  | .list _ => false
  | .dict _ => false
  | .tuple ds => nlAll ds
  | _ => true
def nlAll : List PyData → Bool
  | [] => true
  | d :: ds => nl d && nlAll ds
end
theorem nlAll_mem : ∀ {ds : List PyData}, (∀ d ∈ ds, nl d = true) → nlAll ds = true
  | [], _ => rfl
  | d :: ds, h => by
    show (nl d && nlAll ds) = true
    rw [h d (List.mem_cons_self ..), nlAll_mem fun x hx => h x (List.mem_cons_of_mem _ hx)]
    rfl
theorem ex_tL {K : PySem.W.Frag} {H : Hp} {a l : Addr} {xs ys zs : List V} (hl : H l = some (.lst ys)) (h : SqT K H a xs) : SqT K (upd H l (.lst zs)) a xs := by
  rcases h with (h | ⟨o, h⟩) | h
  · exact .inl (.inl (by rw [upd_ne (ne_of h hl (by intro z; cases z))]; exact h))
  · exact .inl (.inr ⟨o, by rw [upd_ne (ne_of h hl (by intro z; cases z))]; exact h⟩)
  · exact .inr h
mutual
/-- a list that changes changes no such datum -/
theorem dp_updL {K : PySem.W.Frag} {H : Hp} {l : Addr} {ys zs : List V} (hl : H l = some (.lst ys)) : ∀ {v : V} (d : PyData), nl d = true → Dp K H v d → Dp K (upd H l (.lst zs)) v d
  | _, .none, _, h => by cases h; exact .non
  | _, .bool _, _, h => by cases h; exact .bl _
  | _, .int _, _, h => by cases h; exact .int _
  | _, .str _, _, h => by cases h; exact .str _
  | _, .list ds, n, h => by cases n
  | _, .tuple ds, n, h => by
    cases h with
    | tup a b => exact .tup (ex_tL hl a) (dpAll_updL hl ds n b)
  | _, .dict _, _, h => by cases h
theorem dpAll_updL {K : PySem.W.Frag} {H : Hp} {l : Addr} {ys zs : List V} (hl : H l = some (.lst ys)) : ∀ {vs : List V} (ds : List PyData), nlAll ds = true → DpAll K H vs ds → DpAll K (upd H l (.lst zs)) vs ds
  | _, [], _, h => by cases h; exact .nil
  | _, d :: ds, n, h => by
    have n' : (nl d && nlAll ds) = true := n
    rw [Bool.and_eq_true] at n'
    cases h with
    | cons a b => exact .cons (dp_updL hl d n'.1 a) (dpAll_updL hl ds n'.2 b)
end

/-! ### what evaluates to which datum -/
def EvD (K : PySem.W.Frag) (te : TE) (σ : L2.St) (H : Hp) (d : PyData) : Prop := ∀ H1, Ex H H1 → ∀ Q : VK, (∀ v H2, Ex H1 H2 → Dp K H2 v d → Q v H2) → te σ H1 Q
def EvDA (K : PySem.W.Frag) (ta : TA) (σ : L2.St) (H : Hp) (ds : List PyData) : Prop := ∀ H1, Ex H H1 → ∀ Q : List V → Hp → Prop, (∀ vs H2, Ex H1 H2 → DpAll K H2 vs ds → Q vs H2) → ta σ H1 Q
/-- a new list of data -/
def EvN (K : PySem.W.Frag) (te : TE) (σ : L2.St) (H : Hp) (ds : List PyData) : Prop := ∀ H1, Ex H H1 → ∀ Q : VK, (∀ p xs H2, H1 p = none → Ex H1 H2 → H2 p = some (.lst xs) → DpAll K H2 xs ds → Q (.ref p) H2) → te σ H1 Q
/-- a promise: called with the data ds, it hands back the datum F ds -/
def spD (K : PySem.W.Frag) (F : List PyData → Option PyData) : Sp := fun vs H Q _ => ∃ ds r, DpAll K H vs ds ∧ F ds = some r ∧ ∀ v H', Ex H H' → Dp K H' v r → Q v H'

section
variable {K : PySem.W.Frag} {σ : L2.St} {H H' : Hp} {ta tb te tx : TE} {t u : TT} {x y z v : V} {r : R2} {d d1 d2 : PyData} {ds es : List PyData}
theorem EvD.mono (e : Ex H H') (h : EvD K te σ H d) : EvD K te σ H' d := fun H1 a Q q => h H1 (e.trans a) Q q
theorem EvN.mono (e : Ex H H') (h : EvN K te σ H ds) : EvN K te σ H' ds := fun H1 a Q q => h H1 (e.trans a) Q q
theorem EvDA.mono {ta : TA} (e : Ex H H') (h : EvDA K ta σ H ds) : EvDA K ta σ H' ds := fun H1 a Q q => h H1 (e.trans a) Q q
theorem ed_ev (h : Ev te σ H v) (hd : Dp K H v d) : EvD K te σ H d := fun H1 e Q q => h H1 e Q fun H2 e2 => q v H2 e2 (dp_ex (e.trans e2) d hd)
theorem ed_n (h : EvN K te σ H ds) : EvD K te σ H (.list ds) := fun H1 e Q q => h H1 e Q fun p xs H2 _ e2 hp hd => q _ H2 e2 (.lst (sq_of hp) hd)
theorem ev_i {i : Int} (h : EvD K te σ H (.int i)) : Ev te σ H (.int i) := fun H1 e Q q => h H1 e Q fun v H2 e2 hv => by
  cases dp_int hv
  exact q H2 e2
theorem ev_b {i : Bool} (h : EvD K te σ H (.bool i)) : Ev te σ H (.bl i) := fun H1 e Q q => h H1 e Q fun v H2 e2 hv => by
  cases dp_bl hv
  exact q H2 e2
theorem ed_i {i : Int} (h : Ev te σ H (.int i)) : EvD K te σ H (.int i) := ed_ev h (.int i)
theorem ed_b {i : Bool} (h : Ev te σ H (.bl i)) : EvD K te σ H (.bool i) := ed_ev h (.bl i)
theorem ed_var {i : Nat} (h : σ[i]? = some (some v)) (hd : Dp K H v d) : EvD K (tVar i) σ H d := ed_ev (ev_var h) hd
theorem ed_is (h : EvD K te σ H d) (e : d = d1) : EvD K te σ H d1 := by
  rw [← e]
  exact h
theorem eda_nil : EvDA K tNil σ H [] := fun H1 _ _ q => q [] H1 (Ex.refl H1) .nil
theorem eda_cons {tr : TA} (h : EvD K te σ H d) (hr : EvDA K tr σ H ds) : EvDA K (tCons te tr) σ H (d :: ds) := fun H1 e Q q =>
  h H1 e _ fun v H2 e2 hv => hr H2 (e.trans e2) _ fun vs H3 e3 hvs => q _ H3 (e2.trans e3) (.cons (dp_ex e3 d hv) hvs)
theorem ed_call {F : List PyData → Option PyData} {E : XK} {ta : TA} (h : EvDA K ta σ H ds) (hf : F ds = some d) : EvD K (tCall (spD K F) [] E ta) σ H d := fun H1 e Q q =>
  h H1 e _ fun vs H2 e2 hv => by
    rw [List.append_nil]
    exact ⟨ds, d, hv, hf, fun v H3 e3 hd => q v H3 (e2.trans e3) hd⟩
/-- an item of a tuple, of a list -/
theorem ed_ixT {n : Nat} {i : Int} (ha : EvD K ta σ H (.tuple ds)) (hb : EvD K tb σ H (.int i)) (hi : i = (n : Int)) (hx : ds[n]? = some d) : EvD K (tOp (rIxT K) ta tb) σ H d := fun H1 e Q q =>
  ha H1 e _ fun v H2 e2 hv => hb H2 (e.trans e2) _ fun w H3 e3 hw => by
    obtain ⟨a, xs, rfl, hs, hd⟩ := dp_tup (dp_ex e3 _ hv)
    cases dp_int hw
    obtain ⟨x, hx1, hx2⟩ := dpAll_at' hd hx
    subst hi
    exact ⟨a, xs, _, x, rfl, rfl, hs, atI_nat hx1, q x H3 (e2.trans e3) hx2⟩
theorem ed_ixL {n : Nat} {i : Int} (ha : EvD K ta σ H (.list ds)) (hb : EvD K tb σ H (.int i)) (hi : i = (n : Int)) (hx : ds[n]? = some d) : EvD K (tOp (rIxL K) ta tb) σ H d := fun H1 e Q q =>
  ha H1 e _ fun v H2 e2 hv => hb H2 (e.trans e2) _ fun w H3 e3 hw => by
    obtain ⟨a, xs, rfl, hs, hd⟩ := dp_lst (dp_ex e3 _ hv)
    cases dp_int hw
    obtain ⟨x, hx1, hx2⟩ := dpAll_at' hd hx
    subst hi
    exact ⟨a, xs, _, x, rfl, rfl, hs, atI_nat hx1, q x H3 (e2.trans e3) hx2⟩
/-- len -/
theorem ed_lenT (h : EvD K te σ H (.tuple ds)) : Ev (tCB (fun xs H Q => ∃ p ys, xs = [.ref p] ∧ (SqL K H p ys ∨ SqT K H p ys) ∧ Q (.int ys.length) H) (tCons te tNil)) σ H (.int (ds.length : Int)) := fun H1 e Q q =>
  h H1 e _ fun v H2 e2 hv => by
    obtain ⟨a, xs, rfl, hs, hd⟩ := dp_tup hv
    refine ⟨a, xs, rfl, .inr hs, ?_⟩
    rw [dpAll_len hd]
    exact q H2 e2
theorem ed_lenL (h : EvD K te σ H (.list ds)) : Ev (tCB (fun xs H Q => ∃ p ys, xs = [.ref p] ∧ (SqL K H p ys ∨ SqT K H p ys) ∧ Q (.int ys.length) H) (tCons te tNil)) σ H (.int (ds.length : Int)) := fun H1 e Q q =>
  h H1 e _ fun v H2 e2 hv => by
    obtain ⟨a, xs, rfl, hs, hd⟩ := dp_lst hv
    refine ⟨a, xs, rfl, .inl hs, ?_⟩
    rw [dpAll_len hd]
    exact q H2 e2
/-- tuple(list) -/
theorem ed_tupL (h : EvD K te σ H (.list ds)) : EvD K (tCB (fun xs H Q => ∃ p ys, xs = [.ref p] ∧ ((SqL K H p ys ∧ ∀ l, H l = none → Q (.ref l) (upd H l (.tup ys))) ∨ (SqT K H p ys ∧ Q (.ref p) H))) (tCons te tNil)) σ H (.tuple ds) := fun H1 e Q q =>
  h H1 e _ fun v H2 e2 hv => by
    obtain ⟨a, xs, rfl, hs, hd⟩ := dp_lst hv
    exact ⟨a, xs, rfl, .inl ⟨hs, fun l hl => q _ _ (e2.trans (Ex.new hl)) (.tup (st_of upd_same) (dpAll_ex (Ex.new hl) ds hd))⟩⟩
/-- a tuple written, a list written -/
theorem ed_tup {ta : TA} (h : EvDA K ta σ H ds) (hl : ds.length ≤ 100000) : EvD K (tTup ta) σ H (.tuple ds) := fun H1 e Q q =>
  h H1 e _ fun vs H2 e2 hv => ⟨sz_of (by rw [dpAll_len hv]; exact hl), fun p hp => q _ _ (e2.trans (Ex.new hp)) (.tup (st_of upd_same) (dpAll_ex (Ex.new hp) ds hv))⟩
theorem ed_lst {ta : TA} (h : EvDA K ta σ H ds) (hl : ds.length ≤ 100000) : EvN K (tLst ta) σ H ds := fun H1 e Q q =>
  h H1 e _ fun vs H2 e2 hv => ⟨sz_of (by rw [dpAll_len hv]; exact hl), fun p hp => q p vs _ (fresh_back e2 hp) (e2.trans (Ex.new hp)) upd_same (dpAll_ex (Ex.new hp) ds hv)⟩
/-- all(list of truths) -/
theorem ed_all {bs : List Bool} (h : EvD K te σ H (.list (bs.map PyData.bool))) : Ev (tCB (rAll K) (tCons te tNil)) σ H (.bl (bs.all id)) := fun H1 e Q q =>
  h H1 e _ fun v H2 e2 hv => by
    obtain ⟨a, xs, rfl, hs, hd⟩ := dp_lst hv
    rw [bls_of hd] at hs
    exact ⟨a, bs, rfl, hs, q H2 e2⟩
/-- tuple + tuple -/
theorem ed_cat (ha : EvD K ta σ H (.tuple ds)) (hb : EvD K tb σ H (.tuple es)) (hl : ds.length + es.length ≤ 100000) : EvD K (tOp (rCatA K) ta tb) σ H (.tuple (ds ++ es)) := fun H1 e Q q =>
  ha H1 e _ fun v H2 e2 hv => hb H2 (e.trans e2) _ fun w H3 e3 hw => by
    obtain ⟨a, xs, rfl, hs, hd⟩ := dp_tup (dp_ex e3 _ hv)
    obtain ⟨b, ys, rfl, ht, he⟩ := dp_tup hw
    refine ⟨a, b, xs, ys, rfl, rfl, hs, ht, sz_of (by rw [dpAll_len hd, dpAll_len he]; exact hl), fun z => ?_, fun _ z => ?_, fun _ _ p hp => ?_⟩
    · subst z
      have : ds = [] := by
        have := dpAll_len hd
        cases ds with
        | nil => rfl
        | cons _ _ => simp at this
      subst this
      exact q _ H3 (e2.trans e3) hw
    · subst z
      have : es = [] := by
        have := dpAll_len he
        cases es with
        | nil => rfl
        | cons _ _ => simp at this
      subst this
      exact q _ H3 (e2.trans e3) (by rw [List.append_nil]; exact .tup hs hd)
    · exact q _ _ ((e2.trans e3).trans (Ex.new hp)) (.tup (st_of upd_same) (dpAll_app (dpAll_ex (Ex.new hp) ds hd) (dpAll_ex (Ex.new hp) es he)))
end

/-! ### statements -/
section
variable {K : PySem.W.Frag} {σ : L2.St} {H H' : Hp} {ta tb te tx : TE} {t u : TT} {x y z v : V} {D : Ends} {tu tw tz : TS} {g : TG} {d d1 d2 : PyData} {ds : List PyData}
theorem s_retD (h : EvD K te σ H d) (k : ∀ v H1, Ex H H1 → Dp K H1 v d → D.rt v H1) : tRet te D σ H := h H (Ex.refl H) _ k
theorem s_asgD {i : Nat} (h : EvD K te σ H d) (k : ∀ v H1, Ex H H1 → Dp K H1 v d → D.nx (σ.set i (some v)) H1) : tAsg te (gName i) D σ H := h H (Ex.refl H) _ k
theorem q_asgD {i : Nat} (h : EvD K te σ H d) (k : ∀ v H1, Ex H H1 → Dp K H1 v d → tz D (σ.set i (some v)) H1) : tSeq (tAsg te (gName i)) tz D σ H := h H (Ex.refl H) _ k
theorem q_asgN {i : Nat} (h : EvN K te σ H ds) (k : ∀ p xs H1, H p = none → Ex H H1 → H1 p = some (.lst xs) → DpAll K H1 xs ds → tz D (σ.set i (some (.ref p))) H1) : tSeq (tAsg te (gName i)) tz D σ H := h H (Ex.refl H) _ k
theorem q_unp2 {i j : Nat} (h : EvD K te σ H (.tuple [d1, d2])) (k : ∀ v w H1, Ex H H1 → Dp K H1 v d1 → Dp K H1 w d2 → tz D ((σ.set i (some v)).set j (some w)) H1) :
    tSeq (tAsg te (gTup K 2 (gCons (gName i) (gCons (gName j) gNil)))) tz D σ H := h H (Ex.refl H) _ fun v H1 e hv => by
  obtain ⟨a, xs, rfl, hs, hd⟩ := dp_tup hv
  cases hd with
  | cons h1 hd =>
    cases hd with
    | cons h2 hd =>
      cases hd
      exact ⟨a, _, rfl, hs, rfl, _, _, rfl, _, _, rfl, rfl, k _ _ H1 e h1 h2⟩
end

/-! ### what a for, a comprehension walks -/
/-- wi gives the data ds, one by one; wherever the heap has grown from H (stable: G) -/
def Src (K : PySem.W.Frag) (wi : TI) (σ : L2.St) (H : Hp) (ds : List PyData) : Prop :=
  ∀ H1, Ex H H1 → ∀ R : It → Hp → Prop, (∀ J H2 (G : Hp → Prop), Ex H1 H2 → (∀ H', Ex H2 H' → G H') →
    Walk J ds.length G (fun i H x H' => H' = H ∧ ∃ d, ds[i]? = some d ∧ Dp K H x d) → R J H2) → wi σ H1 R
/-- the same where the walked object stood in H already -/
def SrcS (K : PySem.W.Frag) (wi : TI) (σ : L2.St) (H : Hp) (ds : List PyData) : Prop :=
  ∀ H1, Ex H H1 → ∀ R : It → Hp → Prop, (∀ J H2 (G : Hp → Prop), Ex H1 H2 → (∀ H', Ex H H' → G H') →
    Walk J ds.length G (fun i Hc x H' => H' = Hc ∧ ∃ d, ds[i]? = some d ∧ Dp K H x d) → R J H2) → wi σ H1 R
section
variable {K : PySem.W.Frag} {σ : L2.St} {H H' : Hp} {ta tb te tx tl : TE} {t u : TT} {x y z v : V} {D : Ends} {tu tw tz : TS} {g : TG} {d d1 d2 : PyData} {ds : List PyData} {wi : TI}
theorem SrcS.src (h : SrcS K wi σ H ds) : Src K wi σ H ds := fun H1 e R k => h H1 e R fun J H2 G e2 hg w =>
  k J H2 (fun H' => Ex H H') e2 (fun H' e3 => (e.trans e2).trans e3) (w.mono (fun H' e3 => hg H' e3) fun i Hc x H' _ e3 hy => ⟨hy.1, by
    obtain ⟨d, h1, h2⟩ := hy.2
    exact ⟨d, h1, dp_ex e3 _ h2⟩⟩)
theorem walk_sT {H0 : Hp} {a : Addr} {xs : List V} (hd : DpAll K H0 xs ds) : Walk (Itt K a) ds.length (fun H => SqT K H a xs) (fun i Hc x H' => H' = Hc ∧ ∃ d, ds[i]? = some d ∧ Dp K H0 x d) := by
  rw [← dpAll_len hd]
  exact (walk_tup (K := K) (a := a) (xs := xs)).mono (fun H h => h) fun i H x H' hi hg hy => ⟨hy.1, dpAll_at hd hy.2⟩
theorem walk_sL {H0 : Hp} {a : Addr} {xs : List V} (hd : DpAll K H0 xs ds) : Walk (Itl K a) ds.length (fun H => SqL K H a xs) (fun i Hc x H' => H' = Hc ∧ ∃ d, ds[i]? = some d ∧ Dp K H0 x d) := by
  rw [← dpAll_len hd]
  exact (walk_list (K := K) (a := a) (xs := xs)).mono (fun H h => h) fun i H x H' hi hg hy => ⟨hy.1, dpAll_at hd hy.2⟩
theorem Src.mono (e : Ex H H') (h : Src K wi σ H ds) : Src K wi σ H' ds := fun H1 a R k => h H1 (e.trans a) R k
theorem walk_dT {a : Addr} {xs : List V} (hn : xs.length = ds.length) : Walk (Itt K a) ds.length (fun H => SqT K H a xs ∧ DpAll K H xs ds) (fun i H x H' => H' = H ∧ ∃ d, ds[i]? = some d ∧ Dp K H x d) := by
  rw [← hn]
  refine (walk_tup (K := K) (a := a) (xs := xs)).mono (fun H h => h.1) (fun i H x H' hi hg hy => ⟨hy.1, ?_⟩)
  exact dpAll_at hg.2 hy.2
theorem walk_dL {a : Addr} {xs : List V} (hn : xs.length = ds.length) : Walk (Itl K a) ds.length (fun H => SqL K H a xs ∧ DpAll K H xs ds) (fun i H x H' => H' = H ∧ ∃ d, ds[i]? = some d ∧ Dp K H x d) := by
  rw [← hn]
  refine (walk_list (K := K) (a := a) (xs := xs)).mono (fun H h => h.1) (fun i H x H' hi hg hy => ⟨hy.1, ?_⟩)
  exact dpAll_at hg.2 hy.2
theorem src_T (h : EvD K tl σ H (.tuple ds)) : Src K (iTup K tl) σ H ds := fun H1 e R k => h H1 e _ fun v H2 e2 hv => by
  obtain ⟨a, xs, rfl, hs, hd⟩ := dp_tup hv
  exact ⟨a, rfl, ⟨xs, hs⟩, k _ H2 _ e2 (fun H' e3 => ⟨ex_t e3 hs, dpAll_ex e3 ds hd⟩) (walk_dT (dpAll_len hd))⟩
theorem src_L (h : EvD K tl σ H (.list ds)) : Src K (iList K tl) σ H ds := fun H1 e R k => h H1 e _ fun v H2 e2 hv => by
  obtain ⟨a, xs, rfl, hs, hd⟩ := dp_lst hv
  exact ⟨a, rfl, ⟨xs, hs⟩, k _ H2 _ e2 (fun H' e3 => ⟨ex_l e3 hs, dpAll_ex e3 ds hd⟩) (walk_dL (dpAll_len hd))⟩
theorem srcS_T (h : Ev tl σ H v) (hv : Dp K H v (.tuple ds)) : SrcS K (iTup K tl) σ H ds := fun H1 e R k => h H1 e _ fun H2 e2 => by
  obtain ⟨a, xs, rfl, hs, hd⟩ := dp_tup hv
  exact ⟨a, rfl, ⟨xs, ex_t (e.trans e2) hs⟩, k _ H2 _ e2 (fun H' e3 => ex_t e3 hs) (walk_sT hd)⟩
theorem srcS_L (h : Ev tl σ H v) (hv : Dp K H v (.list ds)) : SrcS K (iList K tl) σ H ds := fun H1 e R k => h H1 e _ fun H2 e2 => by
  obtain ⟨a, xs, rfl, hs, hd⟩ := dp_lst hv
  exact ⟨a, rfl, ⟨xs, ex_l (e.trans e2) hs⟩, k _ H2 _ e2 (fun H' e3 => ex_l e3 hs) (walk_sL hd)⟩
/-- the ints of a range -/
def rngD (lo : Int) (n : Nat) : List PyData := (List.range n).map fun (k : Nat) => PyData.int (lo + (k : Int))
theorem rngD_len {lo : Int} {n : Nat} : (rngD lo n).length = n := by unfold rngD; rw [List.length_map, List.length_range]
theorem rngD_at {lo : Int} {n i : Nat} (h : i < n) : (rngD lo n)[i]? = some (.int (lo + (i : Int))) := by unfold rngD; rw [List.getElem?_map, List.getElem?_range h]; rfl
theorem walk_dR {H0 : Hp} {lo : Int} {n : Nat} : Walk (Itr lo n) (rngD lo n).length (fun _ => True) (fun i Hc x H' => H' = Hc ∧ ∃ d, (rngD lo n)[i]? = some d ∧ Dp K H0 x d) := by
  rw [rngD_len]
  refine (walk_range (lo := lo) (n := n)).mono (fun H h => h) (fun i H x H' hi hg hy => ⟨hy.1, _, rngD_at hi, ?_⟩)
  rw [hy.2]
  exact .int _
theorem srcS_R1 {ta : TA} {n : Int} (h : EvA ta σ H [.int n]) (h1 : -100000000 ≤ n ∧ n ≤ 100000000) : SrcS K (iRng1 ta) σ H (rngD 0 n.toNat) := fun H1 e R k => h H1 e _ fun H2 e2 =>
  ⟨n, rfl, by omega, by omega, k _ H2 _ e2 (fun _ _ => trivial) walk_dR⟩
theorem srcS_R2 {ta : TA} {lo n : Int} (h : EvA ta σ H [.int lo, .int n]) (h1 : -100000000 ≤ n ∧ n ≤ 100000000 ∧ -100000000 ≤ lo ∧ lo ≤ 100000000) : SrcS K (iRng2 ta) σ H (rngD lo (n - lo).toNat) := fun H1 e R k => h H1 e _ fun H2 e2 =>
  ⟨lo, n, rfl, ⟨by omega, by omega, by omega, by omega⟩, k _ H2 _ e2 (fun _ _ => trivial) walk_dR⟩

/-! ### loops -/
theorem q_forS {H0 : Hp} {j : Nat} (e0 : Ex H0 H) (h : SrcS K wi σ H0 ds) (Pv : Nat → L2.St → Hp → Prop) (h0 : ∀ H1, Ex H H1 → Pv 0 σ H1) (hG : ∀ i σ' H', Pv i σ' H' → Ex H0 H')
    (hs : ∀ i d x σ' H', ds[i]? = some d → Dp K H0 x d → Pv i σ' H' → tu { D with nx := Pv (i + 1), ct := Pv (i + 1), bk := tz D } (σ'.set j (some x)) H') (hd : ∀ σ' H', Pv ds.length σ' H' → tz D σ' H') :
    tSeq (tFor wi (gName j) tu) tz D σ H := h H e0 _ fun J H2 G e2 hg w =>
  for_it w (D := { D with nx := tz D }) Pv (h0 H2 e2) (fun i σ' H' _ p => hg H' (hG i σ' H' p)) (fun i x σ' Hc H' hi p hy => by
    obtain ⟨rfl, d, h1, h2⟩ := hy
    exact hs i d x σ' H' h1 h2 p) hd
theorem s_forS {H0 : Hp} {j : Nat} (e0 : Ex H0 H) (h : SrcS K wi σ H0 ds) (Pv : Nat → L2.St → Hp → Prop) (h0 : ∀ H1, Ex H H1 → Pv 0 σ H1) (hG : ∀ i σ' H', Pv i σ' H' → Ex H0 H')
    (hs : ∀ i d x σ' H', ds[i]? = some d → Dp K H0 x d → Pv i σ' H' → tu { D with nx := Pv (i + 1), ct := Pv (i + 1), bk := D.nx } (σ'.set j (some x)) H') (hd : ∀ σ' H', Pv ds.length σ' H' → D.nx σ' H') :
    tFor wi (gName j) tu D σ H := h H e0 _ fun J H2 G e2 hg w =>
  for_it w (D := D) Pv (h0 H2 e2) (fun i σ' H' _ p => hg H' (hG i σ' H' p)) (fun i x σ' Hc H' hi p hy => by
    obtain ⟨rfl, d, h1, h2⟩ := hy
    exact hs i d x σ' H' h1 h2 p) hd
/-- over what may be new: the heap H2 behind its making -/
theorem q_forD {j : Nat} (h : Src K wi σ H ds) (Pv : Hp → Nat → L2.St → Hp → Prop) (h0 : ∀ H1, Ex H H1 → Pv H1 0 σ H1) (hG : ∀ H2 i σ' H', Pv H2 i σ' H' → Ex H2 H')
    (hs : ∀ H2 i d x σ' H', Ex H H2 → ds[i]? = some d → Dp K H' x d → Pv H2 i σ' H' → tu { D with nx := Pv H2 (i + 1), ct := Pv H2 (i + 1), bk := tz D } (σ'.set j (some x)) H') (hd : ∀ H2 σ' H', Ex H H2 → Pv H2 ds.length σ' H' → tz D σ' H') :
    tSeq (tFor wi (gName j) tu) tz D σ H := h H (Ex.refl H) _ fun J H2 G e2 hg w =>
  for_it w (D := { D with nx := tz D }) (Pv H2) (h0 H2 e2) (fun i σ' H' _ p => hg H' (hG H2 i σ' H' p)) (fun i x σ' Hc H' hi p hy => by
    obtain ⟨rfl, d, h1, h2⟩ := hy
    exact hs H2 i d x σ' H' e2 h1 h2 p) fun σ' H' p => hd H2 σ' H' e2 p
/-- for k in range(..): if c(k): return r(k) -/
theorem q_find {j : Nat} {lo : Int} {n : Nat} (h : SrcS K wi σ H (rngD lo n)) (b : Nat → Bool)
    (ht : ∀ k H1, k < n → Ex H H1 → EvT t (σ.set j (some (.int (lo + (k : Int))))) H1 (b k))
    (hr : ∀ k H1 D', k < n → b k = true → (∀ i, i < k → b i = false) → Ex H H1 → D'.rt = D.rt → tu D' (σ.set j (some (.int (lo + (k : Int))))) H1)
    (hd : (∀ k, k < n → b k = false) → ∀ σ' H1, Ex H H1 → (σ' = σ ∨ ∃ x, σ' = σ.set j (some x)) → tz D σ' H1) :
    tSeq (tFor wi (gName j) (tIfS t tu tNext)) tz D σ H := by
  refine q_forS (Ex.refl H) h (fun i σ' H' => Ex H H' ∧ (∀ k, k < i → b k = false) ∧ (σ' = σ ∨ ∃ x, σ' = σ.set j (some x))) (fun H1 e => ⟨e, fun k hk => by omega, .inl rfl⟩) (fun i σ' H' p => p.1) (fun i d x σ' H' hi hx p => ?_) fun σ' H' p => hd (fun k hk => p.2.1 k (by rw [rngD_len]; exact hk)) σ' H' p.1 p.2.2
  have hin : i < n := by
    have q := (List.getElem?_eq_some_iff.mp hi).1
    rw [rngD_len] at q
    exact q
  rw [rngD_at hin] at hi
  cases hi
  cases dp_int hx
  obtain ⟨e, hb, hσ⟩ := p
  have es : σ'.set j (some (.int (lo + (i : Int)))) = σ.set j (some (.int (lo + (i : Int)))) := by
    rcases hσ with rfl | ⟨x, rfl⟩
    · rfl
    · rw [List.set_set]
  rw [es]
  refine s_if (ht i H' hin e) (fun hbi H1 e1 => hr i H1 _ hin hbi hb (e.trans e1) rfl) fun hbi H1 e1 => ?_
  exact ⟨e.trans e1, fun k hk => by
    rcases Nat.lt_succ_iff_lt_or_eq.mp hk with z | z
    · exact hb k z
    · rw [z]
      exact hbi, .inr ⟨_, rfl⟩⟩

/-! ### comprehensions: the data that f gives -/
theorem en_lc {j : Nat} {vs : List Nat} (f : PyData → Option PyData) (h : Src K wi σ H ds) (hz : ds.length ≤ 40000) (hw : ∀ x, wipe ((wipe σ vs).set j (some x)) vs = wipe σ vs)
    (ht : ∀ d v H1, Ex H H1 → d ∈ ds → Dp K H1 v d → EvT t ((wipe σ vs).set j (some v)) H1 (f d).isSome)
    (he : ∀ d r v H1, Ex H H1 → d ∈ ds → Dp K H1 v d → f d = some r → EvD K te ((wipe σ vs).set j (some v)) H1 r) (hn : ∀ d r, d ∈ ds → f d = some r → nl r = true) :
    EvN K (tLc wi (gName j) t te vs) σ H (ds.filterMap f) := fun H1 e Q q => h H1 e _ fun J H2 G e2 hg w Dl hD => by
  refine lc_it w (fun i H' => Ex H2 H' ∧ ∃ acc, H' Dl = some (.lst acc) ∧ DpAll K H' acc ((ds.take i).filterMap f)) ⟨Ex.new hD, [], upd_same, by simpa using DpAll.nil⟩ (fun i H' _ p => hg H' p.1) (fun i x H' H'' hi p hy => ?_) (fun H' p => ?_)
  · obtain ⟨rfl, d, hd, hx⟩ := hy
    obtain ⟨p1, acc, p2, p3⟩ := p
    have e3 : Ex H H'' := (e.trans e2).trans p1
    have hm : d ∈ ds := List.mem_of_getElem? hd
    have htk : ds.take (i + 1) = ds.take i ++ [d] := by rw [List.take_add_one, hd]; rfl
    refine ⟨hw x, ht d x H'' e3 hm hx H'' (Ex.refl _) _ fun H3 e4 => ?_⟩
    have hle : acc.length ≤ ds.length := by
      rw [dpAll_len p3]
      exact Nat.le_trans (List.length_filterMap_le _ _) (by rw [List.length_take]; omega)
    cases hf : f d with
    | none =>
      show Ex H2 H3 ∧ _
      refine ⟨p1.trans e4, acc, e4 _ _ p2, ?_⟩
      rw [htk, List.filterMap_append, List.filterMap_cons, hf]
      simpa using dpAll_ex e4 _ p3
    | some r =>
      show te _ H3 _
      refine he d r x H'' e3 hm hx hf H3 e4 _ fun y H4 e5 hyr => ⟨acc, e5 _ _ (e4 _ _ p2), sz_lt (by omega), Ex.mut ((p1.trans e4).trans e5) hD, _, upd_same, ?_⟩
      rw [htk, List.filterMap_append, List.filterMap_cons, hf]
      have hall : nlAll ((ds.take i).filterMap f) = true := nlAll_mem fun r' hr' => by
        obtain ⟨d', h1, h2⟩ := List.mem_filterMap.mp hr'
        exact hn d' r' (List.mem_of_mem_take h1) h2
      exact dpAll_snoc (dpAll_updL (e5 _ _ (e4 _ _ p2)) _ hall (dpAll_ex (e4.trans e5) _ p3)) (dp_updL (e5 _ _ (e4 _ _ p2)) _ (hn d r hm hf) hyr)
  · obtain ⟨p1, acc, p2, p3⟩ := p
    rw [List.take_length] at p3
    exact q Dl acc H' (fresh_back e2 hD) (e2.trans p1) p2 p3
end
end WR
set_option Elab.async false
set_option linter.all false
set_option maxRecDepth 100000
set_option maxHeartbeats 1000000
namespace WR
open PySem PySem.Spec PyProof.Rows L2 Evl
/-! ### isinstance upon data -/
def tyName : PyData → String
  | .none => "NoneType"
  | .bool _ => "bool"
  | .int _ => "int"
  | .str _ => "str"
  | .list _ => "list"
  | .tuple _ => "tuple"
  | .dict _ => "dict"
theorem tyx_of {K : PySem.W.Frag} {H : Hp} {v : V} {d : PyData} (h : Dp K H v d) : TyX K H v (.type (tyName d)) := by
  cases h with
  | non => exact .base .non
  | bl b => exact .base (.bl b)
  | int i => exact .base (.int i)
  | str x => exact .base (.str x)
  | lst a b =>
    rcases a with (a | ⟨o, a⟩) | ⟨o, its, n, a, c, _⟩
    · exact .base (.lst a)
    · exact .base (.frz a)
    · exact .kList a c
  | tup a b =>
    rcases a with (a | ⟨o, a⟩) | ⟨o, its, n, a, c, _⟩
    · exact .base (.tup a)
    · exact .fTuple a
    · exact .kTuple a c
theorem ev_isi {K : PySem.W.Frag} {σ : L2.St} {H : Hp} {te : TE} {d : PyData} {T : String} {b : Bool} (h : EvD K te σ H d) (hk : kitB (tyName d) T = some b) :
    Ev (tCB (rIsi K) (tCons te (tCons (tC (.ty T)) tNil))) σ H (.bl b) := fun H1 e Q q =>
  h H1 e _ fun v H2 e2 hv => ⟨v, .ty T, _, _, b, rfl, .ty T, tyx_of hv, kit_ty hk, q H2 e2⟩
def isTup : PyData → Bool | .tuple _ => true | _ => false
def isInt : PyData → Bool | .int _ => true | _ => false
def isIntB : PyData → Bool | .int _ => true | .bool _ => true | _ => false
def isBool : PyData → Bool | .bool _ => true | _ => false
theorem kit_tup (d : PyData) : kitB (tyName d) "tuple" = some (isTup d) := by cases d <;> (simp only [tyName, isTup]; decide +kernel)
theorem kit_int (d : PyData) : kitB (tyName d) "int" = some (isIntB d) := by cases d <;> (simp only [tyName, isIntB]; decide +kernel)
theorem kit_bool (d : PyData) : kitB (tyName d) "bool" = some (isBool d) := by cases d <;> (simp only [tyName, isBool]; decide +kernel)

theorem ev_chain {K : PySem.W.Frag} {σ : L2.St} {H : Hp} {ta tb tc : TE} {a i b : Int} {p1 p2 : Int → Int → Bool} (ha : EvD K ta σ H (.int a)) (hb : EvD K tb σ H (.int i)) (hc : EvD K tc σ H (.int b)) :
    Ev (tChain (rI0 fun i j => .bl (p1 i j)) (rI0 fun i j => .bl (p2 i j)) ta tb tc) σ H (.bl (p1 a i && p2 i b)) := fun H1 e Q q =>
  ha H1 e _ fun v H2 e2 hv => hb H2 (e.trans e2) _ fun w H3 e3 hw => by
    cases dp_int hv
    cases dp_int hw
    refine ⟨a, i, rfl, rfl, _, rfl, ?_⟩
    cases h : p1 a i with
    | false =>
      rw [h] at q
      exact q H3 (e2.trans e3)
    | true =>
      rw [h] at q
      show tc σ H3 _
      refine hc H3 ((e.trans e2).trans e3) _ fun x H4 e4 hx => ?_
      cases dp_int hx
      exact ⟨i, b, rfl, rfl, q H4 ((e2.trans e3).trans e4)⟩
theorem spD_len {K : PySem.W.Frag} {F : List PyData → Option PyData} {n : Nat} (hF : ∀ ds r, F ds = some r → ds.length = n) {vs : List V} {H : Hp} {Q : VK} {E : XK} (h : spD K F vs H Q E) : vs.length = n := by
  obtain ⟨ds, r, hd, hf, _⟩ := h
  rw [dpAll_len hd]
  exact hF ds r hf
theorem dpAll_1 {K : PySem.W.Frag} {H : Hp} {vs : List V} {d : PyData} (h : DpAll K H vs [d]) : ∃ v, vs = [v] ∧ Dp K H v d := by
  cases h with
  | cons a b => cases b; exact ⟨_, rfl, a⟩
theorem dpAll_2 {K : PySem.W.Frag} {H : Hp} {vs : List V} {d e : PyData} (h : DpAll K H vs [d, e]) : ∃ v w, vs = [v, w] ∧ Dp K H v d ∧ Dp K H w e := by
  cases h with
  | cons a b =>
    obtain ⟨w, rfl, c⟩ := dpAll_1 b
    exact ⟨_, w, rfl, a, c⟩
theorem dpAll_3 {K : PySem.W.Frag} {H : Hp} {vs : List V} {d e f : PyData} (h : DpAll K H vs [d, e, f]) : ∃ v w x, vs = [v, w, x] ∧ Dp K H v d ∧ Dp K H w e ∧ Dp K H x f := by
  cases h with
  | cons a b =>
    obtain ⟨w, x, rfl, c⟩ := dpAll_2 b
    exact ⟨_, w, x, rfl, a, c⟩
/-- functions upon data, by their number of arguments -/
def f1 (g : PyData → Option PyData) : List PyData → Option PyData | [a] => g a | _ => none
def f2 (g : PyData → PyData → Option PyData) : List PyData → Option PyData | [a, b] => g a b | _ => none
def f3 (g : PyData → PyData → PyData → Option PyData) : List PyData → Option PyData | [a, b, c] => g a b c | _ => none
theorem f1_len {g : PyData → Option PyData} : ∀ ds r, f1 g ds = some r → ds.length = 1
  | [_], _, _ => rfl
theorem f2_len {g : PyData → PyData → Option PyData} : ∀ ds r, f2 g ds = some r → ds.length = 2
  | [_, _], _, _ => rfl
theorem f3_len {g : PyData → PyData → PyData → Option PyData} : ∀ ds r, f3 g ds = some r → ds.length = 3
  | [_, _, _], _, _ => rfl
theorem sp1 {K : PySem.W.Frag} {g : PyData → Option PyData} {vs : List V} {H : Hp} {Q : VK} {E : XK} (h : spD K (f1 g) vs H Q E) :
    ∃ v d r, vs = [v] ∧ Dp K H v d ∧ g d = some r ∧ ∀ v H', Ex H H' → Dp K H' v r → Q v H' := by
  obtain ⟨ds, r, hd, hf, q⟩ := h
  match ds, hf with
  | [d], hf =>
    obtain ⟨v, rfl, hv⟩ := dpAll_1 hd
    exact ⟨v, d, r, rfl, hv, hf, q⟩
theorem sp2 {K : PySem.W.Frag} {g : PyData → PyData → Option PyData} {vs : List V} {H : Hp} {Q : VK} {E : XK} (h : spD K (f2 g) vs H Q E) :
    ∃ v w d e r, vs = [v, w] ∧ Dp K H v d ∧ Dp K H w e ∧ g d e = some r ∧ ∀ v H', Ex H H' → Dp K H' v r → Q v H' := by
  obtain ⟨ds, r, hd, hf, q⟩ := h
  match ds, hf with
  | [d, e], hf =>
    obtain ⟨v, w, rfl, hv, hw⟩ := dpAll_2 hd
    exact ⟨v, w, d, e, r, rfl, hv, hw, hf, q⟩
theorem sp3 {K : PySem.W.Frag} {g : PyData → PyData → PyData → Option PyData} {vs : List V} {H : Hp} {Q : VK} {E : XK} (h : spD K (f3 g) vs H Q E) :
    ∃ v w x d e f r, vs = [v, w, x] ∧ Dp K H v d ∧ Dp K H w e ∧ Dp K H x f ∧ g d e f = some r ∧ ∀ v H', Ex H H' → Dp K H' v r → Q v H' := by
  obtain ⟨ds, r, hd, hf, q⟩ := h
  match ds, hf with
  | [d, e, f], hf =>
    obtain ⟨v, w, x, rfl, hv, hw, hx⟩ := dpAll_3 hd
    exact ⟨v, w, x, d, e, f, r, rfl, hv, hw, hx, hf, q⟩

theorem fm_map {α β : Type} {f : α → Option β} {g : α → β} : ∀ {l : List α}, (∀ x ∈ l, f x = some (g x)) → l.filterMap f = l.map g
  | [], _ => rfl
  | x :: l, h => by
    rw [List.filterMap_cons, h x (List.mem_cons_self ..), List.map_cons]
    show g x :: _ = _
    rw [fm_map fun y hy => h y (List.mem_cons_of_mem _ hy)]
end WR
set_option Elab.async false
set_option linter.all false
namespace WR
open PySem
def topS (i : Nat) : Stmt := PySem.Challenge.pw_wayrows_k12_numbers_of_ways.main.body.getD i (.Pass ⟨0, 0, 0, 0⟩)
abbrev s_WebError : Stmt := topS 1
abbrev s_NoWay : Stmt := topS 2
abbrev sIsInt : Stmt := topS 4
abbrev sBetw : Stmt := topS 5
abbrev sRoot : Stmt := topS 7
abbrev sKids : Stmt := topS 8
abbrev sWaysTo : Stmt := topS 10
abbrev s_place_of : Stmt := topS 12
abbrev s_is_way : Stmt := topS 13
abbrev sDeck : Stmt := topS 15
abbrev sDraw : Stmt := topS 16
abbrev sOne : Stmt := topS 17
abbrev sLTree : Stmt := topS 18
abbrev sUps : Stmt := topS 19
abbrev sDown : Stmt := topS 20
abbrev sLMix : Stmt := topS 21
abbrev sNumb : Stmt := topS 22
abbrev sLKids : Stmt := topS 23
abbrev sLWeb : Stmt := topS 24
abbrev sLists : Stmt := topS 25
abbrev s_law_all : Stmt := topS 26
abbrev s_law_due : Stmt := topS 27
abbrev s_law_told : Stmt := topS 28
abbrev s_law_way : Stmt := topS 29
abbrev s_law_bent : Stmt := topS 30
abbrev sLaw : Stmt := topS 31
end WR
set_option Elab.async false
set_option linter.all false
set_option maxRecDepth 100000
set_option maxHeartbeats 1000000
namespace WR
open PySem PySem.Spec PyProof.Rows L2 Evl
/-! ### the deck: an object that each draw changes -/
def rem (H : Hp) (p : Addr) : Hp := fun q => if q = p then none else H q
theorem rem_self {H : Hp} {p : Addr} : rem H p p = none := if_pos rfl
theorem rem_ne {H : Hp} {p q : Addr} (h : q ≠ p) : rem H p q = H q := if_neg h
theorem rem_ex {H : Hp} {p : Addr} : Ex (rem H p) H := fun a o h => by
  by_cases e : a = p
  · rw [e, rem_self] at h
    cases h
  · rwa [rem_ne e] at h
theorem rem_mono {H H' : Hp} {p : Addr} (e : Ex H H') : Ex (rem H p) (rem H' p) := fun a o h => by
  by_cases z : a = p
  · rw [z, rem_self] at h
    cases h
  · rw [rem_ne z] at h ⊢
    exact e a o h
/-- what is behind a change of p is behind a second one -/
theorem rem_trans {H H1 H2 : Hp} {p : Addr} (a : Ex (rem H p) H1) (b : Ex (rem H1 p) H2) : Ex (rem H p) H2 := fun q o h => by
  have n : q ≠ p := fun z => by
    rw [z, rem_self] at h
    cases h
  exact b q o (by rw [rem_ne n]; exact a q o h)
def DkO (L : Addr) (a b n : Int) : HO := .lst [.ref L, .int a, .int b, .int n]
structure DkAt (H : Hp) (p L : Addr) (ns : List Int) (a b n : Int) : Prop where
  at_ : H p = some (DkO L a b n)
  ls : H L = some (.lst (ns.map V.int))
  a0 : 0 ≤ a
  b0 : 0 ≤ b
  n0 : 0 ≤ n
  len : ns.length ≤ 63
def Dk (H : Hp) (p L : Addr) (ns : List Int) (N : Int) : Prop := ∃ a b n, DkAt H p L ns a b n ∧ n ≤ N
theorem DkAt.ne {H : Hp} {p L : Addr} {ns : List Int} {a b n : Int} (h : DkAt H p L ns a b n) : L ≠ p := by
  intro z
  have h1 := h.at_
  have h2 := h.ls
  rw [z, h1] at h2
  have h3 : [V.ref L, .int a, .int b, .int n] = ns.map V.int := HO.lst.inj (Option.some.inj h2)
  cases ns with
  | nil => cases h3
  | cons x r => cases h3
theorem DkAt.ex {H H' : Hp} {p L : Addr} {ns : List Int} {a b n : Int} (h : DkAt H p L ns a b n) (e : Ex H H') : DkAt H' p L ns a b n :=
  ⟨e _ _ h.at_, e _ _ h.ls, h.a0, h.b0, h.n0, h.len⟩
theorem DkAt.upd {H : Hp} {p L : Addr} {ns : List Int} {a b n a' b' n' : Int} (h : DkAt H p L ns a b n) (ha : 0 ≤ a') (hb : 0 ≤ b') (hn : 0 ≤ n') : DkAt (upd H p (DkO L a' b' n')) p L ns a' b' n' :=
  ⟨upd_same, by rw [upd_ne h.ne]; exact h.ls, ha, hb, hn, h.len⟩
theorem Dk.ex {H H' : Hp} {p L : Addr} {ns : List Int} {N : Int} (h : Dk H p L ns N) (e : Ex H H') : Dk H' p L ns N := by
  obtain ⟨a, b, n, d, hn⟩ := h
  exact ⟨a, b, n, d.ex e, hn⟩
theorem ex_upd {H B : Hp} {p : Addr} {o : HO} (e : Ex B H) (h : B p = none) : Ex B (upd H p o) := Ex.mut e h

/-- a draw below m: some number, the deck one draw on -/
def spDraw : Sp := fun vs H Q _ => ∃ p L ns m N, vs = [.ref p, .int m] ∧ Dk H p L ns N ∧ N ≤ 1000000000 ∧ 1 ≤ m ∧ m ≤ 1000000 ∧
  ∀ r H', 0 ≤ r → r < m → Ex (rem H p) H' → Dk H' p L ns (N + 1) → Q (.int r) H'
theorem spDraw_len {vs : List V} {H : Hp} {Q : VK} {E : XK} (h : spDraw vs H Q E) : vs.length = 2 := by
  obtain ⟨p, L, ns, m, N, rfl, _⟩ := h
  rfl

abbrev nDraw : List Str := ["_law_deck_here", "_law_many", "_law_found", "_law_cell", "_law_mixed"]
theorem scDraw : FnScope nDraw ["_law_deck_here", "_law_many"] (defScope sDraw) := ⟨rfl, rfl, rfl, by decide +kernel, rfl, by decide +kernel, by decide +kernel⟩
theorem ev_int {σ : L2.St} {H : Hp} {te : TE} {i : Int} (h : Ev te σ H (.int i)) : Ev (tCB (fun xs H Q => (∃ i, xs = [.int i] ∧ Q (.int i) H) ∨ ∃ k, xs = [.bl k] ∧ Q (.int (if k then 1 else 0)) H) (tCons te tNil)) σ H (.int i) :=
  ev_cb (ea_cons h ea_nil) fun H1 _ Q q => .inl ⟨i, rfl, q H1 (Ex.refl H1)⟩
theorem ev_abs {σ : L2.St} {H : Hp} {te : TE} {i : Int} (h : Ev te σ H (.int i)) : Ev (tCB (fun xs H Q => ∃ i, xs = [.int i] ∧ Q (.int (if i < 0 then -i else i)) H) (tCons te tNil)) σ H (.int (if i < 0 then -i else i)) :=
  ev_cb (ea_cons h ea_nil) fun H1 _ Q q => ⟨i, rfl, q H1 (Ex.refl H1)⟩
theorem eqv_ints_nil : ∀ ns : List Int, PyData.eqv (.list (ns.map PyData.int)) (.list []) = ns.isEmpty
  | [] => by simp [PyData.eqv, PyData.eqvAll]
  | _ :: _ => by simp [PyData.eqv, PyData.eqvAll]
theorem lay_ints : ∀ ns : List Int, PyData.canLayAll0 (ns.map PyData.int) = true ∧ PyData.depthAll (ns.map PyData.int) = 0
  | [] => by simp [PyData.canLayAll0, PyData.depthAll]
  | n :: ns => by
    have ih := lay_ints ns
    simp only [List.map_cons, PyData.canLayAll0, PyData.canLay0, PyData.depthAll, PyData.depth, ih.1, ih.2]
    decide
theorem shaped_ints (ns : List Int) : SeqAt.shaped (.list (ns.map PyData.int)) = true := by
  have q := lay_ints ns
  show (PyData.canLay0 _ && decide (PyData.depth _ ≤ 64)) = true
  simp only [PyData.canLay0, PyData.depth, q.1, q.2]
  decide
section
variable {P : Program} {w : World} {K : PySem.W.Frag} {mg : Str → Option Value} {base : Heap}
theorem ok_draw {f : Addr} {fd : FuncData} (F : Fun K "_law_draw" "_law_draw" sDraw f fd) (m1 : mg "int" = none) (m2 : mg "abs" = none) (m3 : mg "len" = none) :
    FnOk P w K mg base CX0 1 f fd ["_law_deck_here", "_law_many"] spDraw := by
  refine F.ok scDraw (fun vs H Q E h => spDraw_len h) (fun cdv A outer s H vs Q E hr h => ?_)
  obtain ⟨p, L, ns, m, N, rfl, hdk, hN, hm1, hm2, q⟩ := h
  refine ⟨_, pss_cons (ps_asg (pe_op op_add (pe_ix ix_list (pv 0) pe_int (fun _ _ => rfl)) pe_int) (pg_sub (pv 0) pe_int set_list))
    (pss_cons (ps_if (pt_cmpR op_gt (pe_ix ix_list (pv 0) pe_int (fun _ _ => rfl)) pe_int (nomark _))
      (pss_cons (ps_set (i := 2) scDraw.nd rfl (.inl rfl) (pe_op op_mod (pe_callTy call_int1 (by rfl) m1 (by decide +kernel) (pa_cons (pe_ix ix_list (pv 0) pe_int (fun _ _ => rfl)) pa_nil)) (pv 1)))
      (pss_cons (ps_asg (pe_op op_fdiv (pe_ix ix_list (pv 0) pe_int (fun _ _ => rfl)) (pv 1)) (pg_sub (pv 0) pe_int set_list))
      (pss_one (ps_ret (pv 2))))) pss_nil)
    (pss_cons (ps_set (i := 3) scDraw.nd rfl (.inl rfl) pe_int)
    (pss_cons (ps_if (pt_cmpR (op_neD (by have := hr.units; exact this)) (pe_ix ix_list (pv 0) pe_int (fun _ _ => rfl)) (pe_lst pa_nil) (nomark _))
      (pss_one (ps_set (i := 3) scDraw.nd rfl (.inl rfl) (pe_ix ix_list (pe_ix ix_list (pv 0) pe_int (fun _ _ => rfl)) (pe_op op_mod (pe_callTy call_int1 (by rfl) m1 (by decide +kernel) (pa_cons (pe_ix ix_list (pv 0) pe_int (fun _ _ => rfl)) pa_nil)) (pe_callB call_len_seq (by rfl) m3 PySem.boot_len (pa_cons (pe_ix ix_list (pv 0) pe_int (fun _ _ => rfl)) pa_nil))) (fun _ _ => rfl)))) pss_nil)
    (pss_cons (ps_asg (pe_op op_add (pe_ix ix_list (pv 0) pe_int (fun _ _ => rfl)) pe_int) (pg_sub (pv 0) pe_int set_list))
    (pss_cons (ps_if (pw_and (pt_cmpR op_ge (pe_callB call_abs (by rfl) m2 (by decide +kernel) (pa_cons (pv 3) pa_nil)) (pe_op op_pow pe_int pe_int) (nomark _))
        (pw_and1 (pt_cmpR op_le (pe_ix ix_list (pv 0) pe_int (fun _ _ => rfl)) (pe_callB call_len_seq (by rfl) m3 PySem.boot_len (pa_cons (pe_ix ix_list (pv 0) pe_int (fun _ _ => rfl)) pa_nil)) (nomark _)))).pt
      (pss_cons (ps_asg (pe_op op_fdiv (pe_callB call_abs (by rfl) m2 (by decide +kernel) (pa_cons (pv 3) pa_nil)) (pv 1)) (pg_sub (pv 0) pe_int set_list))
      (pss_one (ps_ret (pe_op op_mod (pe_callTy call_int1 (by rfl) m1 (by decide +kernel) (pa_cons (pe_callB call_abs (by rfl) m2 (by decide +kernel) (pa_cons (pv 3) pa_nil)) pa_nil)) (pv 1))))) pss_nil)
    (pss_cons (ps_set (i := 4) scDraw.nd rfl (.inl rfl) (pe_op op_mod (pe_op op_pow (pe_callTy call_int1 (by rfl) m1 (by decide +kernel) (pa_cons (pe_op op_add (pe_op op_mod (pe_callTy call_int1 (by rfl) m1 (by decide +kernel) (pa_cons (pv 3) pa_nil)) pe_int)
        (pe_op op_mul pe_int (pe_ix ix_list (pv 0) pe_int (fun _ _ => rfl)))) pa_nil)) pe_int) pe_int))
    (pss_cons (ps_set (i := 4) scDraw.nd rfl (.inl rfl) (pe_op op_mod (pe_op op_pow (pe_callTy call_int1 (by rfl) m1 (by decide +kernel) (pa_cons (pe_op op_add (pe_op op_mul (pv 4) (pe_op op_add (pe_op op_mul pe_int (pe_ix ix_list (pv 0) pe_int (fun _ _ => rfl))) pe_int)) pe_int) pa_nil)) pe_int) pe_int))
    (pss_one (ps_ret (pe_op op_mod (pe_op op_fdiv (pv 4) pe_int) (pv 1))))))))))), ?_⟩
  obtain ⟨a, b, n, d, hnN⟩ := hdk
  have hB : rem H p p = none := rem_self
  have g0 : ∀ {σ' : L2.St} {H' : Hp} {a b n : Int}, σ'[0]? = some (some (.ref p)) → DkAt H' p L ns a b n → Ev (tOp (rIxL K) (tVar 0) (tC (.int 0))) σ' H' (.ref L) := fun hs d => ev_op (ev_var hs) ev_c (rv_ixL (sq_of d.at_) rfl)
  have g1 : ∀ {σ' : L2.St} {H' : Hp} {a b n : Int}, σ'[0]? = some (some (.ref p)) → DkAt H' p L ns a b n → Ev (tOp (rIxL K) (tVar 0) (tC (.int 1))) σ' H' (.int a) := fun hs d => ev_op (ev_var hs) ev_c (rv_ixL (sq_of d.at_) rfl)
  have g2 : ∀ {σ' : L2.St} {H' : Hp} {a b n : Int}, σ'[0]? = some (some (.ref p)) → DkAt H' p L ns a b n → Ev (tOp (rIxL K) (tVar 0) (tC (.int 2))) σ' H' (.int b) := fun hs d => ev_op (ev_var hs) ev_c (rv_ixL (sq_of d.at_) rfl)
  have g3 : ∀ {σ' : L2.St} {H' : Hp} {a b n : Int}, σ'[0]? = some (some (.ref p)) → DkAt H' p L ns a b n → Ev (tOp (rIxL K) (tVar 0) (tC (.int 3))) σ' H' (.int n) := fun hs d => ev_op (ev_var hs) ev_c (rv_ixL (sq_of d.at_) rfl)
  have gl : ∀ {σ' : L2.St} {H' : Hp} {a b n : Int}, σ'[0]? = some (some (.ref p)) → DkAt H' p L ns a b n → Ev (tCB (fun xs H Q => ∃ p ys, xs = [.ref p] ∧ (SqL K H p ys ∨ SqT K H p ys) ∧ Q (.int ys.length) H) (tCons (tOp (rIxL K) (tVar 0) (tC (.int 0))) tNil)) σ' H' (.int (ns.length : Int)) := fun hs d =>
    ev_is (ev_len (K := K) (g0 hs d) (sq_of d.ls)) (by rw [List.length_map])
  have hm : (0 : Int) < m := by omega
  have cdiv : ∀ i, CDiv i m := fun i => ⟨hm, by omega⟩
  have n0 := d.n0
  -- the draw is counted
  refine q_setL (j := 3) (v := .int (n + 1)) d.at_ (ev_op (g3 rfl d) ev_c rv_I0) (ev_var rfl) ev_c (show 3 < 4 by decide) fun H1 e1 => ?_
  have d1 : DkAt (upd H1 p (DkO L a b (n + 1))) p L ns a b (n + 1) := (d.ex e1).upd d.a0 d.b0 (by omega)
  have x1 : Ex (rem H p) (upd H1 p (DkO L a b (n + 1))) := ex_upd (rem_ex.trans e1) hB
  show tSeq _ _ _ _ (upd H1 p (DkO L a b (n + 1)))
  generalize upd H1 p (DkO L a b (n + 1)) = H1 at d1 x1 ⊢
  -- what is left of a great one
  refine q_when (b := decide (0 < b)) (et_test (ev_op (g2 rfl d1) ev_c rv_I0)) (fun _ H2 e2 => ?_) fun _ H2 e2 => ?_
  · have d2 := d1.ex e2
    refine q_asg (v := .int (b % m)) (ev_op (ev_int (g2 rfl d2)) (ev_var rfl) (rv_I hm)) fun H3 e3 => ?_
    have d3 := d2.ex e3
    refine q_setL (j := 2) (v := .int (b / m)) d3.at_ (ev_op (g2 rfl d3) (ev_var rfl) (rv_I (cdiv b))) (ev_var rfl) ev_c (show 2 < 4 by decide) fun H4 e4 => ?_
    have d4 : DkAt (upd H4 p (DkO L a (b / m) (n + 1))) p L ns a (b / m) (n + 1) := (d3.ex e4).upd d.a0 (Int.ediv_nonneg d.b0 (by omega)) (by omega)
    refine s_ret (v := .int (b % m)) (ev_var rfl) fun H5 e5 => ?_
    refine q _ H5 (Int.emod_nonneg _ (by omega)) (Int.emod_lt_of_pos _ hm) ((ex_upd (((x1.trans e2).trans e3).trans e4) hB).trans e5) ?_
    exact ⟨_, _, _, d4.ex e5, by omega⟩
  have d2 := d1.ex e2
  have x2 := x1.trans e2
  refine q_asg (v := .int 61) ev_c fun H3 e3 => ?_
  have d3 := d2.ex e3
  have x3 := x2.trans e3
  have hlen : ∀ H', DkAt H' p L ns a b (n + 1) → SqL K H' L (ns.map V.int) := fun H' d => sq_of d.ls
  refine q_ifAsg (b := !ns.isEmpty) (v := .int (if ns.isEmpty then 61 else ns.getD (a % (ns.length : Int)).toNat 0)) ?_ (fun hb => ?_) (fun hb => ?_) fun H4 e4 => ?_
  · refine et_test (ev_opL (x := .ref L) (xs := []) (g0 rfl d3) (el_lst ea_nil (by simp)) fun q' H5 h5 e5 => ?_)
    intro H6 e6 Q' q6
    refine ⟨.list (ns.map PyData.int), .list [], .lst (sq_of ((d3.ex (e5.trans e6)).ls)) (dpAll_ints ns), .lst (sq_of (e6 _ _ h5)) .nil, shaped_ints ns, shaped_ints [], ?_⟩
    rw [eqv_ints_nil]
    exact q6 H6 (Ex.refl H6)
  · have hne : ns ≠ [] := by
      intro z
      rw [z] at hb
      cases hb
    have hpos : 0 < ns.length := by
      cases ns with
      | nil => exact absurd rfl hne
      | cons _ _ => simp
    have hie : ns.isEmpty = false := by simpa using hne
    have hr0 : 0 ≤ a % (ns.length : Int) := Int.emod_nonneg _ (by omega)
    have hr1 : a % (ns.length : Int) < (ns.length : Int) := Int.emod_lt_of_pos _ (by omega)
    rw [hie]
    refine ev_op (x := .ref L) (y := .int (a % (ns.length : Int))) (g0 rfl d3) (ev_op (ev_int (g1 rfl d3)) (gl rfl d3) (rv_I (by omega))) (rv_ixL (K := K) (sq_of d3.ls) ?_)
    obtain ⟨k, hk⟩ : ∃ k : Nat, a % (ns.length : Int) = (k : Int) := ⟨_, (Int.toNat_of_nonneg hr0).symm⟩
    rw [hk]
    refine atI_nat ?_
    have hkl : k < ns.length := by omega
    rw [Int.toNat_natCast, List.getElem?_map, List.getD_eq_getElem?_getD, List.getElem?_eq_getElem hkl]
    rfl
  · have hie : ns.isEmpty = true := by simpa using hb
    rw [hie]
    rfl
  generalize (if ns.isEmpty = true then (61 : Int) else ns.getD (a % (ns.length : Int)).toNat 0) = cell
  have d4 := d3.ex e4
  have x4 := x3.trans e4
  refine q_setL (j := 1) (v := .int (a + 1)) d4.at_ (ev_op (g1 rfl d4) ev_c rv_I0) (ev_var rfl) ev_c (show 1 < 4 by decide) fun H5 e5 => ?_
  have a0 := d.a0
  have d5 : DkAt (upd H5 p (DkO L (a + 1) b (n + 1))) p L ns (a + 1) b (n + 1) := (d4.ex e5).upd (by omega) d.b0 (by omega)
  have x5 : Ex (rem H p) (upd H5 p (DkO L (a + 1) b (n + 1))) := ex_upd (x4.trans e5) hB
  show tSeq _ _ _ _ (upd H5 p (DkO L (a + 1) b (n + 1)))
  generalize upd H5 p (DkO L (a + 1) b (n + 1)) = H5 at d5 x5 ⊢
  refine q_when (b := decide ((10 : Int) ^ (18 : Int).toNat ≤ (if cell < 0 then -cell else cell)) && decide (a + 1 ≤ (ns.length : Int))) ?_ (fun _ H6 e6 => ?_) fun _ H6 e6 => ?_
  · refine et_and (et_test (ev_op (ev_abs (ev_var rfl)) (ev_op ev_c ev_c (rv_I ⟨by decide, by decide, by decide⟩)) rv_I0)) fun _ => et_test (ev_op (g1 rfl d5) (gl rfl d5) rv_I0)
  · have d6 := d5.ex e6
    have hab : 0 ≤ (if cell < 0 then -cell else cell) := by split <;> omega
    refine q_setL (j := 2) (v := .int ((if cell < 0 then -cell else cell) / m)) d6.at_ (ev_op (ev_abs (ev_var rfl)) (ev_var rfl) (rv_I (cdiv _))) (ev_var rfl) ev_c (show 2 < 4 by decide) fun H7 e7 => ?_
    have d7 : DkAt (upd H7 p (DkO L (a + 1) ((if cell < 0 then -cell else cell) / m) (n + 1))) p L ns (a + 1) ((if cell < 0 then -cell else cell) / m) (n + 1) := (d6.ex e7).upd (by omega) (Int.ediv_nonneg hab (by omega)) (by omega)
    refine s_ret (v := .int ((if cell < 0 then -cell else cell) % m)) (ev_op (ev_int (ev_abs (ev_var rfl))) (ev_var rfl) (rv_I hm)) fun H8 e8 => ?_
    refine q _ H8 (Int.emod_nonneg _ (by omega)) (Int.emod_lt_of_pos _ hm) ((ex_upd ((x5.trans e6).trans e7) hB).trans e8) ?_
    exact ⟨_, _, _, d7.ex e8, by omega⟩
  have d6 := d5.ex e6
  have x6 := x5.trans e6
  have c1 : 0 ≤ cell % 2147483587 := Int.emod_nonneg _ (by decide)
  have c2 : cell % 2147483587 < 2147483587 := Int.emod_lt_of_pos _ (by decide)
  refine q_asg (v := .int ((cell % 2147483587 + 67867979 * (n + 1)) ^ (5 : Int).toNat % 2147483647)) (ev_op (ev_op (ev_int (ev_op (ev_op (ev_int (ev_var rfl)) ev_c (rv_I (by decide))) (ev_op ev_c (g3 rfl d6) (rv_I (.inl ⟨by decide, by decide⟩))) rv_I0)) ev_c (rv_I ⟨by decide, by decide, by omega⟩)) ev_c (rv_I (by decide))) fun H7 e7 => ?_
  have m1 : 0 ≤ (cell % 2147483587 + 67867979 * (n + 1)) ^ (5 : Int).toNat % 2147483647 := Int.emod_nonneg _ (by decide)
  have m2 : (cell % 2147483587 + 67867979 * (n + 1)) ^ (5 : Int).toNat % 2147483647 < 2147483647 := Int.emod_lt_of_pos _ (by decide)
  generalize (cell % 2147483587 + 67867979 * (n + 1)) ^ (5 : Int).toNat % 2147483647 = mixed at m1 m2 ⊢
  have d7 := d6.ex e7
  have x7 := x6.trans e7
  have hmul : mixed * (2 * (n + 1) + 9) < 2147483647 * (2 * (n + 1) + 9) := Int.mul_lt_mul_of_pos_right m2 (by omega)
  have hmul0 : 0 ≤ mixed * (2 * (n + 1) + 9) := Int.mul_nonneg m1 (by omega)
  refine q_asg (v := .int ((mixed * (2 * (n + 1) + 9) + 7019) ^ (3 : Int).toNat % 2147483579)) (ev_op (ev_op (ev_int (ev_op (ev_op (ev_var rfl) (ev_op (ev_op ev_c (g3 rfl d7) (rv_I (.inl ⟨by decide, by decide⟩))) ev_c rv_I0) (rv_I (.inl ⟨by omega, by omega⟩))) ev_c rv_I0)) ev_c (rv_I ⟨by decide, by decide, by omega⟩)) ev_c (rv_I (by decide))) fun H8 e8 => ?_
  generalize (mixed * (2 * (n + 1) + 9) + 7019) ^ (3 : Int).toNat % 2147483579 = mixed2
  refine s_ret (v := .int (mixed2 / 16 % m)) (ev_op (ev_op (ev_var rfl) ev_c (rv_I ⟨by decide, by decide⟩)) (ev_var rfl) (rv_I hm)) fun H9 e9 => ?_
  refine q _ H9 (Int.emod_nonneg _ (by omega)) (Int.emod_lt_of_pos _ hm) ((x7.trans e8).trans e9) ?_
  exact ⟨_, _, _, (d7.ex e8).ex e9, by omega⟩
end
end WR
set_option Elab.async false
set_option linter.all false
set_option maxRecDepth 100000
set_option maxHeartbeats 1000000
namespace WR
open PySem PySem.Spec PyProof.Rows L2 Evl
section
variable {prog : Program} {w : World} {A : Around} {E : Value → Shared → Prop} {s : Shared}
theorem collect_tup {l : Addr} {vs : List Value} {Q : List Value → Shared → Prop} (hT : s.heap.IsTuple l vs.toArray) (hz : vs.length ≤ sizeLine)
    (k : Q vs { s with heap := (s.heap.push (seqObj "list" #[] 0)).update s.heap.objs.size (Obj.mapSeq (· ++ vs.toArray)) }) :
    wpAny (model prog w) A (collect (.ref l)) Q E s := by
  obtain ⟨ob, hob, hcl, n, hdat⟩ := id hT
  unfold collect
  refine wpAny_bind (wpAny_runValue ?_)
  refine codeAny_builtin entry_proto_collect' ?_
  show wpAny _ _ (do
    again (.builtin "list.__iadd__" ⟨[← newList [], .ref l], []⟩)) _ _ s
  refine wpAny_bind (wpAny_newList ?_)
  refine wpAny_pure ⟨Code.quiet_builtin _ (by decide +kernel), ?_⟩
  refine codeAny_builtin entry_list_iadd' ?_
  show wpAny _ _ (Builtin.List.listExtendWith
    (.ref s.heap.objs.size) (.ref l) (.ref s.heap.objs.size)) _ _ { s with heap := s.heap.push (seqObj "list" #[] 0) }
  unfold Builtin.List.listExtendWith
  have hob' : (s.heap.push (seqObj "list" #[] 0)).get? l = some ob :=
    Heap.get?_push_of_some _ hob
  have new := Heap.get?_push_size s.heap (o := seqObj "list" #[] 0) rfl
  refine wpAny_bind (wpAny_typeOf (T := "tuple") ⟨ob, hob', hcl⟩ ?_)
  rw [if_pos (by
    rw [show (Value.type "tuple" == Value.type "tuple") = true from rfl]
    simp)]
  refine wpAny_bind (listItems_at hob' hdat ?_)
  refine wpAny_bind (listItems_at new rfl ?_)
  rw [if_neg (by simp)]
  refine wpAny_bind (listUpdate_at new rfl ?_ (Nat.zero_le _) ?_)
  · refine wpAny_pure ?_
    show wpAny (model prog w) A (do
        let o ← load s.heap.objs.size
        match o.data with
        | .seq ys _ => pure ys.toList
        | _ => unsupported "internal:collect") Q E { s with heap := (s.heap.push (seqObj "list" #[] 0)).update s.heap.objs.size (Obj.mapSeq (· ++ vs.toArray)) }
    refine wpAny_bind (wpAny_load (get?_update_seq new _) ?_)
    have e : ((#[] : Array Value) ++ vs.toArray).toList = vs := by simp
    show wpAny _ _ (pure ((#[] : Array Value) ++ vs.toArray).toList) Q E _
    rw [e]
    exact wpAny_pure k
  · show (#[] ++ vs.toArray).size ≤ sizeLine + 1
    simp only [Array.size_append, List.size_toArray, List.length_nil]
    omega
theorem sorted_tupI {l : Addr} {vs : List Value} {ns : List Int} {Q : Value → Shared → Prop} (hT : s.heap.IsTuple l vs.toArray) (hi : IntsAre vs ns) (h64 : vs.length < 64)
    (k : ∀ (out : Array Value) (ns' : List Int), IntsAre out.toList ns' → ns'.Perm ns → ns'.Pairwise (· ≤ ·) →
      Q (.ref (s.heap.objs.size + 1)) { s with heap := sortedAll s.heap vs out }) :
    wpAny (model prog w) A (call (.builtin "sorted") [.ref l]) Q E s := by
  refine Calls.call_function_entry kind_sorted plain_sorted
    entry_sorted (args_sorted1 _) ?_
  unfold Builtin.«sorted»
  refine wpAny_bind (m := checkCount "sorted" 1 1 _) ?_
  refine wpAny_pure (wpAny_bind (collect_tup hT (small64 h64) ?_))
  refine wpAny_bind (wpAny_newList ?_)
  let h1 : Heap := (s.heap.push (seqObj "list" #[] 0)).update s.heap.objs.size (Obj.mapSeq (· ++ vs.toArray))
  have sz : h1.objs.size = s.heap.objs.size + 1 := by
    show ((s.heap.push (seqObj "list" #[] 0)).update s.heap.objs.size _).objs.size = _
    rw [Heap.size_update, size_push']
  have at2 : (h1.push (seqObj "list" vs.toArray 0)).get? (s.heap.objs.size + 1) = some (seqObj "list" vs.toArray 0) := by
    rw [← sz]
    exact Heap.get?_push_size _ rfl
  show wpAny _ _ _ _ _ { s with heap := h1.push (seqObj "list" vs.toArray 0) }
  rw [show (s.heap.push (seqObj "list" #[] 0)).update s.heap.objs.size (Obj.mapSeq (· ++ vs.toArray)) = h1 from rfl, sz]
  refine wpAny_bind (wpAny_holding ?_)
  refine wpAny_call_entry slot_list_sort ⟨_, at2, rfl⟩ entry_list_sort ?_ (args_list_sort _)
  refine list_sort_tree at2 hi h64 fun out ns' a1 a2 a3 => ⟨_, rfl, ?_⟩
  exact wpAny_pure ⟨_, rfl, k out ns' a1 a2 a3⟩
end
section
variable {X : Cx}
/-- sorted of a list or a tuple of ints -/
def rSortedA (K : PySem.W.Frag) : List V → Hp → VK → Prop := fun vs H Q =>
  ∃ (a : Addr) (ns : List Int), vs = [V.ref a] ∧ (SqL K H a (ns.map V.int) ∨ SqT K H a (ns.map V.int)) ∧ ns.length < 64 ∧
    ∀ (ns' : List Int) (p : Addr), ns'.Perm ns → ns'.Pairwise (· ≤ ·) → H p = none → Q (.ref p) (upd H p (.lst (ns'.map V.int)))
theorem cr_sortedA : CallR X (.builtin "sorted") (rSortedA X.K) := by
  intro pins s σ H vs us Q I r h
  obtain ⟨a, ns, rfl, hs, h64, q⟩ := h
  rcases hs with hs | hs
  · exact cr_sorted pins s σ H _ us Q I r ⟨a, ns, rfl, hs, h64, q⟩
  · obtain ⟨its, rv, hl, _⟩ := I.tuple hs
    rw [Vals.ref1 r]
    have hi := rv.ints
    refine sorted_tupI (show s.heap.IsTuple a its.toArray from hl) hi (by rw [hi.length]; exact h64) fun out ns' h1 h2 h3 => ?_
    obtain ⟨ep, e⟩ := sortedAll_at s.heap its out
    have hlen : (ns'.map V.int).length ≤ sizeLine := by
      rw [List.length_map, h2.length_eq]
      exact small64 h64
    refine ⟨.ref _, upd H (s.heap.objs.size + 1) (.lst (ns'.map V.int)), ?_, rfl, q ns' _ h2 h3 (I.hok.fresh (Nat.le_succ _))⟩
    exact I.laid (t' := s.toks) (fun _ _ => sortedAll_old) (Nat.le_succ _) ⟨hlen, out.toList, ep, vals_of_ints h1, e⟩
end
/-- the sorted one is one -/
def insI (x : Int) : List Int → List Int
  | [] => [x]
  | y :: r => if x ≤ y then x :: y :: r else y :: insI x r
def sortI : List Int → List Int
  | [] => []
  | x :: r => insI x (sortI r)
theorem insI_perm (x : Int) : ∀ l, (insI x l).Perm (x :: l)
  | [] => List.Perm.refl _
  | y :: r => by
    unfold insI
    split
    · exact List.Perm.refl _
    · exact ((insI_perm x r).cons y).trans (List.Perm.swap x y r)
theorem sortI_perm : ∀ l, (sortI l).Perm l
  | [] => List.Perm.refl _
  | x :: r => (insI_perm x _).trans ((sortI_perm r).cons x)
theorem insI_sorted (x : Int) : ∀ l : List Int, l.Pairwise (· ≤ ·) → (insI x l).Pairwise (· ≤ ·)
  | [], _ => List.pairwise_singleton _ _
  | y :: r, h => by
    rw [List.pairwise_cons] at h
    unfold insI
    split
    · next hxy =>
      rw [List.pairwise_cons, List.pairwise_cons]
      refine ⟨fun z hz => ?_, h⟩
      rcases List.mem_cons.mp hz with rfl | hz
      · exact hxy
      · exact Int.le_trans hxy (h.1 z hz)
    · next hxy =>
      rw [List.pairwise_cons]
      refine ⟨fun z hz => ?_, insI_sorted x r h.2⟩
      rcases List.mem_cons.mp ((insI_perm x r).mem_iff.mp hz) with rfl | hz
      · omega
      · exact h.1 z hz
theorem sortI_sorted : ∀ l, (sortI l).Pairwise (· ≤ ·)
  | [] => .nil
  | x :: r => insI_sorted x _ (sortI_sorted r)
theorem sorted_one : ∀ {a b : List Int}, a.Perm b → a.Pairwise (· ≤ ·) → b.Pairwise (· ≤ ·) → a = b
  | [], b, h, _, _ => by rw [List.nil_perm.mp h]
  | x :: a, [], h, _, _ => by cases List.perm_nil.mp h
  | x :: a, y :: b, h, ha, hb => by
    rw [List.pairwise_cons] at ha hb
    have h1 : x ≤ y := by
      rcases List.mem_cons.mp (h.mem_iff.mpr (List.mem_cons_self ..)) with z | z
      · omega
      · exact ha.1 y z
    have h2 : y ≤ x := by
      rcases List.mem_cons.mp (h.mem_iff.mp (List.mem_cons_self ..)) with z | z
      · omega
      · exact hb.1 x z
    have e : x = y := by omega
    subst e
    rw [sorted_one (List.Perm.cons_inv h) ha.2 hb.2]
section
variable {K : PySem.W.Frag} {σ : L2.St} {H : Hp} {te : TE} {ns : List Int}
/-- sorted(te): a new list -/
theorem en_sortedT (h : EvD K te σ H (.tuple (ns.map PyData.int))) (h64 : ns.length < 64) : EvN K (tCB (rSortedA K) (tCons te tNil)) σ H ((sortI ns).map PyData.int) := fun H1 e Q q =>
  h H1 e _ fun v H2 e2 hv => by
    obtain ⟨a, xs, rfl, hs, hd⟩ := dp_tup hv
    rw [ints_of hd] at hs
    refine ⟨a, ns, rfl, .inr hs, h64, fun ns' p hp hq hn => ?_⟩
    rw [sorted_one (hp.trans (sortI_perm ns).symm) hq (sortI_sorted ns)]
    exact q p _ _ (fresh_back e2 hn) (e2.trans (Ex.new hn)) upd_same (dpAll_ints _)
theorem en_sortedL (h : EvD K te σ H (.list (ns.map PyData.int))) (h64 : ns.length < 64) : EvN K (tCB (rSortedA K) (tCons te tNil)) σ H ((sortI ns).map PyData.int) := fun H1 e Q q =>
  h H1 e _ fun v H2 e2 hv => by
    obtain ⟨a, xs, rfl, hs, hd⟩ := dp_lst hv
    rw [ints_of hd] at hs
    refine ⟨a, ns, rfl, .inl hs, h64, fun ns' p hp hq hn => ?_⟩
    rw [sorted_one (hp.trans (sortI_perm ns).symm) hq (sortI_sorted ns)]
    exact q p _ _ (fresh_back e2 hn) (e2.trans (Ex.new hn)) upd_same (dpAll_ints _)
/-- tuple(a new list) -/
theorem ed_tupN {ds : List PyData} (h : EvN K te σ H ds) : EvD K (tCB (fun xs H Q => ∃ p ys, xs = [.ref p] ∧ ((SqL K H p ys ∧ ∀ l, H l = none → Q (.ref l) (upd H l (.tup ys))) ∨ (SqT K H p ys ∧ Q (.ref p) H))) (tCons te tNil)) σ H (.tuple ds) := ed_tupL (ed_n h)
end
section
variable {X : Cx}
/-- repr of any datum -/
def rReprA (K : PySem.W.Frag) : List V → Hp → VK → Prop := fun xs H Q =>
  ∃ (x : V) (d : PyData), xs = [x] ∧ Dp K H x d ∧ d.showable = true ∧ d.hasDict = false ∧ d.shown.length ≤ sizeLine ∧ d.depth ≤ 40 ∧ Q (.str d.shown) H
theorem call_reprA (hg : X.A.guards = some []) (hu : X.A.units + 64 < cLine) : CallR X (.builtin "repr") (rReprA X.K) := by
  intro pins s σ H xs us Q I r h
  obtain ⟨x, d, rfl, hd, hs, hn, hz, hdp, q⟩ := h
  have hd' := hd
  cases hd' with
  | lst a b => exact call_reprD hg hu pins s σ H _ us Q I r ⟨_, _, rfl, hd, hs, hn, hz, hdp, q⟩
  | tup a b => exact call_reprD hg hu pins s σ H _ us Q I r ⟨_, _, rfl, hd, hs, hn, hz, hdp, q⟩
  | non =>
    obtain ⟨u, rfl, ru⟩ := vals1 r
    cases ru
    exact PySem.P.repr_of_none ⟨.str _, H, I.tok _, ⟨_, rfl⟩, q⟩
  | bl b =>
    obtain ⟨u, rfl, ru⟩ := vals1 r
    cases ru
    exact PySem.P.repr_of_bool ⟨.str _, H, I.tok _, ⟨_, rfl⟩, q⟩
  | int i =>
    obtain ⟨u, rfl, t, rfl⟩ := vals1 r
    exact PySem.P.repr_of_int (of_decide_eq_true hs) ⟨.str _, H, I.tok _, ⟨_, rfl⟩, q⟩
  | str y =>
    obtain ⟨u, rfl, t, rfl⟩ := vals1 r
    exact PySem.P.repr_of_str ⟨.str _, H, I.tok _, ⟨_, rfl⟩, q⟩ hz
end
end WR
set_option Elab.async false
set_option linter.all false
set_option maxRecDepth 100000
set_option maxHeartbeats 1000000
namespace WR
open PySem PySem.Spec PyProof.Rows L2 Evl
/-! ### a list of data that grows -/
def LD (K : PySem.W.Frag) (H : Hp) (p : Addr) (ds : List PyData) : Prop := ∃ xs, H p = some (.lst xs) ∧ DpAll K H xs ds
theorem LD.ex {K : PySem.W.Frag} {H H' : Hp} {p : Addr} {ds : List PyData} (h : LD K H p ds) (e : Ex H H') : LD K H' p ds := by
  obtain ⟨xs, h1, h2⟩ := h
  exact ⟨xs, e _ _ h1, dpAll_ex e ds h2⟩
theorem LD.dp {K : PySem.W.Frag} {H : Hp} {p : Addr} {ds : List PyData} (h : LD K H p ds) : Dp K H (.ref p) (.list ds) := by
  obtain ⟨xs, h1, h2⟩ := h
  exact .lst (sq_of h1) h2
section
variable {K : PySem.W.Frag} {σ : L2.St} {H H' : Hp} {ta tb te tx : TE} {t : TT} {D : Ends} {tz : TS} {d : PyData} {ds es : List PyData} {l : Addr}
/-- xs.append(a datum) -/
theorem q_appD (hl : LD K H l ds) (ha : Ev ta σ H (.ref l)) (h : EvD K te σ H d) (hz : ds.length < 100000) (hn : nlAll ds = true) (hd : nl d = true)
    (k : ∀ H1, (∀ B : Hp, Ex B H → B l = none → Ex B H1) → LD K H1 l (ds ++ [d]) → tz D σ H1) :
    tSeq (tDrop (tBM K "list" rAppend ta (tCons te tNil))) tz D σ H := ha H (Ex.refl H) _ fun H1 e1 => by
  obtain ⟨xs, h1, h2⟩ := hl
  refine ⟨.inl ⟨rfl, xs, sq_of (e1 l _ h1)⟩, h H1 e1 _ fun v H2 e2 hv => ?_⟩
  have h3 := e2 l _ (e1 l _ h1)
  refine ⟨l, xs, v, rfl, rfl, h3, sz_lt (by rw [dpAll_len h2]; exact hz), k _ (fun B eb hb => Ex.mut ((eb.trans e1).trans e2) hb) ⟨_, upd_same, ?_⟩⟩
  exact dpAll_snoc (dpAll_updL h3 _ hn (dpAll_ex (e1.trans e2) _ h2)) (dp_updL h3 _ hd hv)
theorem s_appD (hl : LD K H l ds) (ha : Ev ta σ H (.ref l)) (h : EvD K te σ H d) (hz : ds.length < 100000) (hn : nlAll ds = true) (hd : nl d = true)
    (k : ∀ H1, (∀ B : Hp, Ex B H → B l = none → Ex B H1) → LD K H1 l (ds ++ [d]) → D.nx σ H1) :
    tDrop (tBM K "list" rAppend ta (tCons te tNil)) D σ H := ha H (Ex.refl H) _ fun H1 e1 => by
  obtain ⟨xs, h1, h2⟩ := hl
  refine ⟨.inl ⟨rfl, xs, sq_of (e1 l _ h1)⟩, h H1 e1 _ fun v H2 e2 hv => ?_⟩
  have h3 := e2 l _ (e1 l _ h1)
  refine ⟨l, xs, v, rfl, rfl, h3, sz_lt (by rw [dpAll_len h2]; exact hz), k _ (fun B eb hb => Ex.mut ((eb.trans e1).trans e2) hb) ⟨_, upd_same, ?_⟩⟩
  exact dpAll_snoc (dpAll_updL h3 _ hn (dpAll_ex (e1.trans e2) _ h2)) (dp_updL h3 _ hd hv)
theorem q_asgLD {i : Nat} (h : EvN K te σ H ds) (k : ∀ p H1, H p = none → Ex H H1 → LD K H1 p ds → tz D (σ.set i (some (.ref p))) H1) : tSeq (tAsg te (gName i)) tz D σ H :=
  q_asgN h fun p xs H1 hp e h1 hd => k p H1 hp e ⟨xs, h1, hd⟩
theorem en_if {b : Bool} (h : EvT t σ H b) (h1 : b = true → EvN K ta σ H ds) (h2 : b = false → EvN K tb σ H ds) : EvN K (tIf t ta tb) σ H ds := fun H1 e Q q => h H1 e _ fun H2 e2 => by
  cases b with
  | true =>
    show ta σ H2 Q
    exact h1 rfl H2 (e.trans e2) Q fun p xs H3 hp e3 h3 hd => q p xs H3 (fresh_back e2 hp) (e2.trans e3) h3 hd
  | false =>
    show tb σ H2 Q
    exact h2 rfl H2 (e.trans e2) Q fun p xs H3 hp e3 h3 hd => q p xs H3 (fresh_back e2 hp) (e2.trans e3) h3 hd
theorem ed_if {b : Bool} (h : EvT t σ H b) (h1 : b = true → EvD K ta σ H d) (h2 : b = false → EvD K tb σ H d) : EvD K (tIf t ta tb) σ H d := fun H1 e Q q => h H1 e _ fun H2 e2 => by
  cases b with
  | true =>
    show ta σ H2 Q
    exact h1 rfl H2 (e.trans e2) Q fun v H3 e3 hd => q v H3 (e2.trans e3) hd
  | false =>
    show tb σ H2 Q
    exact h2 rfl H2 (e.trans e2) Q fun v H3 e3 hd => q v H3 (e2.trans e3) hd
end
def tupI (ns : List Int) : PyData := .tuple (ns.map PyData.int)
def intI : PyData → Int
  | .int i => i
  | _ => 0
def sortT : PyData → PyData
  | .tuple ds => tupI (sortI (ds.map intI))
  | _ => .none
theorem map_intI : ∀ ns : List Int, (ns.map PyData.int).map intI = ns
  | [] => rfl
  | n :: ns => by rw [List.map_cons, List.map_cons, map_intI ns]; rfl
theorem sortT_tupI (ns : List Int) : sortT (tupI ns) = tupI (sortI ns) := by
  show tupI (sortI ((ns.map PyData.int).map intI)) = _
  rw [map_intI]
theorem nl_tupI (ns : List Int) : nl (tupI ns) = true := nlAll_mem fun d hd => by
  obtain ⟨n, _, rfl⟩ := List.mem_map.mp hd
  rfl
theorem nl_tupIs : ∀ l : List (List Int), nlAll (l.map tupI) = true
  | [] => rfl
  | x :: l => by
    show (nl (tupI x) && nlAll (l.map tupI)) = true
    rw [nl_tupI, nl_tupIs l]
    rfl
end WR
set_option Elab.async false
set_option linter.all false
set_option maxRecDepth 100000
set_option maxHeartbeats 1000000
namespace WR
open PySem PySem.Spec PyProof.Rows L2 Evl
/-! ### what stays while a list changes -/
theorem rem_tL {K : PySem.W.Frag} {H : Hp} {a l : Addr} {xs ys : List V} (hl : H l = some (.lst ys)) (h : SqT K H a xs) : SqT K (rem H l) a xs := by
  rcases h with (h | ⟨o, h⟩) | h
  · exact .inl (.inl (by rw [rem_ne (ne_of h hl (by intro z; cases z))]; exact h))
  · exact .inl (.inr ⟨o, by rw [rem_ne (ne_of h hl (by intro z; cases z))]; exact h⟩)
  · exact .inr h
mutual
theorem dp_rem {K : PySem.W.Frag} {H : Hp} {l : Addr} {ys : List V} (hl : H l = some (.lst ys)) : ∀ {v : V} (d : PyData), nl d = true → Dp K H v d → Dp K (rem H l) v d
  | _, .none, _, h => by cases h; exact .non
  | _, .bool _, _, h => by cases h; exact .bl _
  | _, .int _, _, h => by cases h; exact .int _
  | _, .str _, _, h => by cases h; exact .str _
  | _, .list ds, n, h => by cases n
  | _, .tuple ds, n, h => by
    cases h with
    | tup a b => exact .tup (rem_tL hl a) (dpAll_rem hl ds n b)
  | _, .dict _, _, h => by cases h
theorem dpAll_rem {K : PySem.W.Frag} {H : Hp} {l : Addr} {ys : List V} (hl : H l = some (.lst ys)) : ∀ {vs : List V} (ds : List PyData), nlAll ds = true → DpAll K H vs ds → DpAll K (rem H l) vs ds
  | _, [], _, h => by cases h; exact .nil
  | _, d :: ds, n, h => by
    have n' : (nl d && nlAll ds) = true := n
    rw [Bool.and_eq_true] at n'
    cases h with
    | cons a b => exact .cons (dp_rem hl d n'.1 a) (dpAll_rem hl ds n'.2 b)
end
/-- H1 is H grown, the list at l changed -/
def But (l : Addr) (H H1 : Hp) : Prop := ∀ B : Hp, Ex B H → B l = none → Ex B H1
theorem But.dp {K : PySem.W.Frag} {H H1 : Hp} {l : Addr} {ys : List V} {v : V} {d : PyData} (b : But l H H1) (hl : H l = some (.lst ys)) (h : Dp K H v d) (n : nl d = true) : Dp K H1 v d :=
  dp_ex (b _ rem_ex rem_self) d (dp_rem hl d n h)
theorem But.ld {K : PySem.W.Frag} {H H1 : Hp} {l p : Addr} {ys : List V} {ds : List PyData} (b : But l H H1) (hl : H l = some (.lst ys)) (h : LD K H p ds) (hne : p ≠ l) (n : nlAll ds = true) : LD K H1 p ds := by
  obtain ⟨xs, h1, h2⟩ := h
  have e := b _ rem_ex rem_self
  exact ⟨xs, e _ _ (by rw [rem_ne hne]; exact h1), dpAll_ex e _ (dpAll_rem hl _ n h2)⟩

/-! ### repr -/
def okR (d : PyData) : Bool := d.showable && !d.hasDict && decide (d.shown.length ≤ sizeLine) && decide (d.depth ≤ 40)
section
variable {K : PySem.W.Frag} {σ : L2.St} {H H' : Hp} {ta tb te tx : TE} {d e : PyData} {ds es : List PyData}
theorem ev_repr (h : EvD K te σ H d) (ok : okR d = true) : Ev (tCB (rReprA K) (tCons te tNil)) σ H (.str d.shown) := fun H1 e Q q =>
  h H1 e _ fun v H2 e2 hv => by
    unfold okR at ok
    simp only [Bool.and_eq_true, Bool.not_eq_true', decide_eq_true_eq] at ok
    exact ⟨v, d, rfl, hv, ok.1.1.1, ok.1.1.2, ok.1.2, ok.2, q H2 e2⟩
theorem et_reprNe (h1 : EvD K ta σ H d) (h2 : EvD K tb σ H d) (ok : okR d = true) : EvT (tTest (tOp rNe (tCB (rReprA K) (tCons ta tNil)) (tCB (rReprA K) (tCons tb tNil)))) σ H false :=
  et_test (ev_is (ev_op (ev_repr h1 ok) (ev_repr h2 ok) (rv_ne rfl)) (by rw [decide_eq_true (rfl : V.str d.shown = V.str d.shown)]; rfl))
theorem ev_reprEq (h1 : EvD K ta σ H d) (h2 : EvD K tb σ H d) (ok : okR d = true) : Ev (tOp rEq (tCB (rReprA K) (tCons ta tNil)) (tCB (rReprA K) (tCons tb tNil))) σ H (.bl true) :=
  ev_is (ev_op (ev_repr h1 ok) (ev_repr h2 ok) (rv_eq rfl)) (by rw [decide_eq_true (rfl : V.str d.shown = V.str d.shown)])
/-- the last item of a tuple -/
theorem ed_last (h : EvD K ta σ H (.tuple (ds ++ [d]))) : EvD K (tOp (rIxT K) ta (tUn (rU fun i => .int (-i)) (tC (.int 1)))) σ H d := fun H1 e Q q =>
  h H1 e _ fun v H2 e2 hv => by
    obtain ⟨a, xs, rfl, hs, hd⟩ := dp_tup hv
    have hl := dpAll_len hd
    rw [List.length_append] at hl
    have hl : xs.length = ds.length + 1 := hl
    obtain ⟨x, h1, h2⟩ := dpAll_at' (i := ds.length) (d := d) hd (by simp)
    have hx : xs = xs.take ds.length ++ [x] := by
      have q1 := List.take_append_drop ds.length xs
      have q2 : xs.drop ds.length = [x] := by
        rw [List.drop_eq_getElem_cons (by omega)]
        have q3 := (List.getElem?_eq_some_iff.mp h1).2
        rw [q3, List.drop_of_length_le (by omega)]
      rw [q2] at q1
      exact q1.symm
    refine ⟨1, rfl, a, xs, -1, x, rfl, rfl, hs, ?_, q x H2 e2 h2⟩
    rw [hx]
    exact atI_last _ _
/-- a tuple without its last item -/
theorem ed_init (h : EvD K ta σ H (.tuple (ds ++ [d]))) : EvD K (tSl (rSlA K) ta tNoPart (tPart (tUn (rU fun i => .int (-i)) (tC (.int 1))))) σ H (.tuple ds) := fun H1 e Q q =>
  h H1 e _ fun v H2 e2 hv => by
    obtain ⟨a, xs, rfl, hs, hd⟩ := dp_tup hv
    have hl := dpAll_len hd
    rw [List.length_append] at hl
    have hl : xs.length = ds.length + 1 := hl
    have hc : cutV xs none (some (-1)) = xs.take ds.length := by
      unfold cutV
      rw [HT.sIx_none, List.drop_zero]
      show xs.take (((-1 : Int) + (xs.length : Int)).toNat - 0) = _
      rw [show ((-1 : Int) + (xs.length : Int)).toNat - 0 = ds.length by omega]
    refine ⟨1, rfl, _, rfl, a, xs, rfl, hs, fun z => ?_, fun _ p hp => ?_⟩
    · have z2 : ((-1 : Int) + (xs.length : Int)).toNat = xs.length := z.2
      omega
    · refine q _ _ (e2.trans (Ex.new hp)) (.tup (st_of upd_same) ?_)
      rw [hc]
      have q1 := dpAll_take ds.length (dpAll_ex (Ex.new (o := .tup (xs.take ds.length)) hp) _ hd)
      rw [List.take_left] at q1
      exact q1
/-- list + list -/
theorem en_cat {p : Addr} (ha : Ev ta σ H (.ref p)) (hp : LD K H p ds) (hb : EvN K tb σ H es) (hl : ds.length + es.length ≤ 100000) : EvN K (tOp rCat ta tb) σ H (ds ++ es) := fun H1 e Q q =>
  ha H1 e _ fun H2 e2 => hb H2 (e.trans e2) _ fun b ys H3 hb' e3 hb3 hd3 => by
    obtain ⟨xs, h1, h2⟩ := hp.ex ((e.trans e2).trans e3)
    refine ⟨p, b, xs, ys, rfl, rfl, h1, hb3, sz_of (by rw [dpAll_len h2, dpAll_len hd3]; exact hl), fun c hc => ?_⟩
    exact q c _ _ (fresh_back (e2.trans e3) hc) ((e2.trans e3).trans (Ex.new hc)) upd_same (dpAll_app (dpAll_ex (Ex.new hc) _ h2) (dpAll_ex (Ex.new hc) _ hd3))
end
end WR
set_option Elab.async false
set_option linter.all false
set_option maxRecDepth 100000
set_option maxHeartbeats 1000000
namespace WR
open PySem PySem.Spec PyProof.Rows L2 Evl
/-! ### _law_deck -/
def spDeck (K : PySem.W.Frag) : Sp := fun vs H Q _ => ∃ (a : Addr) (ns : List Int), vs = [.ref a] ∧ SqL K H a (ns.map V.int) ∧ ns.length ≤ 63 ∧
  ∀ p L H', H p = none → H L = none → Ex H H' → Dk H' p L ns 0 → Q (.ref p) H'
theorem scDeck : FnScope ["_law_script"] ["_law_script"] (defScope sDeck) := ⟨rfl, rfl, rfl, by decide +kernel, rfl, by decide +kernel, by decide +kernel⟩
theorem cut63 {xs : List V} (h : xs.length ≤ 63) : cutV xs none (some 63) = xs := by
  unfold cutV
  rw [show HT.sIx xs.length xs.length (some 63) = min 63 xs.length from HT.sIx_nat xs.length xs.length 63, HT.sIx_none, List.drop_zero]
  exact List.take_of_length_le (by omega)
section
variable {P : Program} {w : World} {K : PySem.W.Frag} {mg : Str → Option Value} {base : Heap}
theorem ok_deck {f : Addr} {fd : FuncData} (F : Fun K "_law_deck" "_law_deck" sDeck f fd) (m1 : mg "list" = none) : FnOk P w K mg base CX0 1 f fd ["_law_script"] (spDeck K) := by
  refine F.ok scDeck (fun vs H Q E h => ?_) (fun cdv A outer s H vs Q E hr h => ?_)
  · obtain ⟨a, ns, rfl, _⟩ := h
    rfl
  obtain ⟨a, ns, rfl, hS, hlen, q⟩ := h
  refine ⟨_, pss_one (ps_ret (pe_lst (pa_cons (pe_callTy call_list_of (by rfl) m1 (by decide +kernel) (pa_cons (pe_slice sl_list (pv 0) po_none (po_some pe_int)) pa_nil)) (pa_cons pe_int (pa_cons pe_int (pa_cons pe_int pa_nil)))))), ?_⟩
  refine ⟨.ref a, rfl, 63, rfl, a, ns.map V.int, rfl, hS, fun c nc => ?_⟩
  rw [cut63 (by rw [List.length_map]; exact hlen)]
  refine ⟨c, ns.map V.int, rfl, .inl (sq_of upd_same), fun L nL => ?_⟩
  refine ⟨by show 4 ≤ sizeLine; decide, fun p np => ?_⟩
  have e1 : Ex H (upd H c (.lst (ns.map V.int))) := Ex.new nc
  have e2 := Ex.new (o := .lst (ns.map V.int)) nL
  have e3 := Ex.new (o := DkO L 0 0 0) np
  have hp : H p = none := fresh_back (e1.trans e2) np
  refine q p L _ hp (fresh_back e1 nL) ((e1.trans e2).trans e3) ⟨0, 0, 0, ⟨upd_same, ?_, by decide, by decide, by decide, hlen⟩, by decide⟩
  exact e3 _ _ upd_same

end
end WR
set_option Elab.async false
set_option linter.all false
set_option maxRecDepth 100000
set_option maxHeartbeats 1000000
namespace WR
open PySem PySem.Spec PyProof.Rows L2 Evl
theorem nlAll_snoc {ds : List PyData} {d : PyData} (h : nlAll ds = true) (hd : nl d = true) : nlAll (ds ++ [d]) = true := by
  induction ds with
  | nil =>
    show (nl d && true) = true
    rw [hd]
    rfl
  | cons x r ih =>
    have h' : (nl x && nlAll r) = true := h
    rw [Bool.and_eq_true] at h'
    show (nl x && nlAll (r ++ [d])) = true
    rw [h'.1, ih h'.2]
    rfl
theorem nlAll_cons {ds : List PyData} {d : PyData} (hd : nl d = true) (h : nlAll ds = true) : nlAll (d :: ds) = true := by
  show (nl d && nlAll ds) = true
  rw [hd, h]
  rfl
theorem nlAll_of {ds : List PyData} (h : nlAll ds = true) : ∀ d ∈ ds, nl d = true := by
  induction ds with
  | nil => exact fun _ h => by cases h
  | cons x r ih =>
    have h' : (nl x && nlAll r) = true := h
    rw [Bool.and_eq_true] at h'
    intro d hd
    rcases List.mem_cons.mp hd with rfl | hd
    · exact h'.1
    · exact ih h'.2 d hd
theorem q_deck {K : PySem.W.Frag} {σ : L2.St} {H : Hp} {te : TE} {D : Ends} {tz : TS} {i : Nat} {a : Addr} {ns : List Int} {E : XK} (h : Ev te σ H (.ref a)) (hS : SqL K H a (ns.map V.int)) (hl : ns.length ≤ 63)
    (k : ∀ p L H1, H p = none → H L = none → Ex H H1 → Dk H1 p L ns 0 → tz D (σ.set i (some (.ref p))) H1) : tSeq (tAsg (tCall (spDeck K) [] E (tCons te tNil)) (gName i)) tz D σ H :=
  h H (Ex.refl H) _ fun H1 e1 => ⟨a, ns, rfl, ex_l e1 hS, hl, fun p L H2 hp hL e2 hD => k p L H2 (fresh_back e1 hp) (fresh_back e1 hL) (e1.trans e2) hD⟩
theorem q_draw {σ : L2.St} {H : Hp} {te tb : TE} {D : Ends} {tz : TS} {i : Nat} {p L : Addr} {ns : List Int} {c m N : Int} {E : XK} (h : Ev te σ H (.ref p)) (hm : Ev tb σ H (.int m)) (hD : Dk H p L ns N) (hN : N ≤ 1000000000) (h1 : 1 ≤ m) (h2 : m ≤ 1000000)
    (k : ∀ r H1, 0 ≤ r → r < m → Ex (rem H p) H1 → Dk H1 p L ns (N + 1) → tz D (σ.set i (some (.int (c + r)))) H1) : tSeq (tAsg (tOp (rI0 fun i j => .int (i + j)) (tC (.int c)) (tCall spDraw [] E (tCons te (tCons tb tNil)))) (gName i)) tz D σ H :=
  h H (Ex.refl H) _ fun H1 e1 => hm H1 e1 _ fun H2 e2 => ⟨p, L, ns, m, N, rfl, hD.ex (e1.trans e2), hN, h1, h2, fun r H3 hr0 hr1 e3 hD3 => ⟨c, r, rfl, rfl, k r H3 hr0 hr1 ((rem_mono (e1.trans e2)).trans e3) hD3⟩⟩
end WR
set_option Elab.async false
set_option linter.all false
set_option maxRecDepth 100000
set_option maxHeartbeats 1000000
namespace WR
open PySem PySem.Spec PyProof.Rows L2 Evl
/-! ### webs as data -/
def natD (k : Nat) : PyData := .int (k : Int)
def kidsD (ks : List Nat) : PyData := .tuple (ks.map natD)
def webD (l : Nat) (inner : List (List Nat)) : PyData := .tuple [natD l, .tuple (inner.map kidsD)]
/-- leaves and items in their bounds -/
structure Raw (l : Nat) (inner : List (List Nat)) : Prop where
  l1 : 1 ≤ l
  l8 : l ≤ 8
  n20 : inner.length ≤ 20
  lt : ∀ j ks, inner[j]? = some ks → ∀ k ∈ ks, k < l + j
  len : ∀ ks ∈ inner, ks.length ≤ 30
/-- a promise of a def of a web -/
def spW (K : PySem.W.Frag) (g : Nat → List (List Nat) → PyData) : Sp := fun vs H Q _ =>
  ∃ v l inner, vs = [v] ∧ Dp K H v (webD l inner) ∧ Raw l inner ∧ ∀ r H', Ex H H' → Dp K H' r (g l inner) → Q r H'
/-- of a web and a kind -/
def spWK (K : PySem.W.Frag) (g : Nat → List (List Nat) → Nat → PyData) : Sp := fun vs H Q _ =>
  ∃ v l inner k, vs = [v, .int ((k : Nat) : Int)] ∧ Dp K H v (webD l inner) ∧ Raw l inner ∧ k < l + inner.length ∧ ∀ r H', Ex H H' → Dp K H' r (g l inner k) → Q r H'
theorem spW_len {K : PySem.W.Frag} {g : Nat → List (List Nat) → PyData} {vs : List V} {H : Hp} {Q : VK} {E : XK} (h : spW K g vs H Q E) : vs.length = 1 := by
  obtain ⟨v, l, inner, rfl, _⟩ := h
  rfl
theorem spWK_len {K : PySem.W.Frag} {g : Nat → List (List Nat) → Nat → PyData} {vs : List V} {H : Hp} {Q : VK} {E : XK} (h : spWK K g vs H Q E) : vs.length = 2 := by
  obtain ⟨v, l, inner, k, rfl, _⟩ := h
  rfl
section
variable {K : PySem.W.Frag} {σ : L2.St} {H H' : Hp} {ta tb te tx : TE} {D : Ends} {tu tw tz : TS} {l : Nat} {inner : List (List Nat)} {k : Nat}
theorem ed_callW {g : Nat → List (List Nat) → PyData} {E : XK} (h : EvD K te σ H (webD l inner)) (hw : Raw l inner) : EvD K (tCall (spW K g) [] E (tCons te tNil)) σ H (g l inner) := fun H1 e Q q =>
  h H1 e _ fun v H2 e2 hv => ⟨v, l, inner, rfl, hv, hw, fun r H3 e3 hr => q r H3 (e2.trans e3) hr⟩
theorem ed_callWK {g : Nat → List (List Nat) → Nat → PyData} {E : XK} (h : EvD K te σ H (webD l inner)) (hk : EvD K tx σ H (natD k)) (hw : Raw l inner) (hlt : k < l + inner.length) :
    EvD K (tCall (spWK K g) [] E (tCons te (tCons tx tNil))) σ H (g l inner k) := fun H1 e Q q =>
  h H1 e _ fun v H2 e2 hv => hk H2 (e.trans e2) _ fun w H3 e3 hw' => by
    cases dp_int hw'
    exact ⟨v, l, inner, k, rfl, dp_ex e3 _ hv, hw, hlt, fun r H4 e4 hr => q r H4 ((e2.trans e3).trans e4) hr⟩
end
def topN (l : Nat) (inner : List (List Nat)) : Nat := l + inner.length - 1
def kidsAt (l : Nat) (inner : List (List Nat)) (k : Nat) : List Nat := if k < l then [] else inner.getD (k - l) []
end WR
set_option Elab.async false
set_option linter.all false
set_option maxRecDepth 100000
set_option maxHeartbeats 1000000
namespace WR
open PySem PySem.Spec PyProof.Rows L2 Evl
/-! ### how many parents each kind has -/
def bump (cs : List Int) (k : Nat) : List Int := cs.set k (cs.getD k 0 + 1)
def bumpAll (cs : List Int) (ks : List Nat) : List Int := ks.foldl bump cs
def cntF (n : Nat) (inner : List (List Nat)) : List Int := inner.foldl bumpAll (List.replicate n 0)
theorem bump_len (cs : List Int) (k : Nat) : (bump cs k).length = cs.length := by unfold bump; rw [List.length_set]
theorem bumpAll_len : ∀ (ks : List Nat) (cs : List Int), (bumpAll cs ks).length = cs.length
  | [], _ => rfl
  | k :: ks, cs => by
    show (bumpAll (bump cs k) ks).length = _
    rw [bumpAll_len ks, bump_len]
theorem foldl_bump_len : ∀ (inner : List (List Nat)) (cs : List Int), (inner.foldl bumpAll cs).length = cs.length
  | [], _ => rfl
  | ks :: inner, cs => by
    show (inner.foldl bumpAll (bumpAll cs ks)).length = _
    rw [foldl_bump_len inner, bumpAll_len]
theorem cntF_len (n : Nat) (inner : List (List Nat)) : (cntF n inner).length = n := by
  unfold cntF
  rw [foldl_bump_len, List.length_replicate]
theorem cntF_take {n i : Nat} {inner : List (List Nat)} {ks : List Nat} (h : inner[i]? = some ks) : cntF n (inner.take (i + 1)) = bumpAll (cntF n (inner.take i)) ks := by
  unfold cntF
  rw [List.take_add_one, h, List.foldl_append]
  rfl
theorem bumpAll_take {cs : List Int} {ks : List Nat} {j k : Nat} (h : ks[j]? = some k) : bumpAll cs (ks.take (j + 1)) = bump (bumpAll cs (ks.take j)) k := by
  unfold bumpAll
  rw [List.take_add_one, h, List.foldl_append]
  rfl
/-- of each kind of a web -/
def cnts (l : Nat) (inner : List (List Nat)) : List Int := cntF (l + inner.length) inner
theorem fm_rng {f : PyData → Option PyData} {g : Nat → PyData} {lo : Int} {n : Nat} (h : ∀ k : Nat, k < n → f (.int (lo + (k : Int))) = some (g k)) : (rngD lo n).filterMap f = (List.range n).map g := by
  unfold rngD
  rw [List.filterMap_map]
  exact fm_map fun k hk => h k (List.mem_range.mp hk)
end WR
set_option linter.all false
/-! ### webs as they are drawn: kinds by number, their children in any order -/
namespace WR
def cnt (K : Nat → List Nat) (k : Nat) : Nat → Nat
  | 0 => 0
  | n + 1 => cnt K k n + (if k ∈ K n then 1 else 0)
def setK (K : Nat → List Nat) (u : Nat) (ks : List Nat) : Nat → List Nat := fun x => if x = u then ks else K x
theorem setK_same {K : Nat → List Nat} {u : Nat} {ks : List Nat} : setK K u ks u = ks := if_pos rfl
theorem setK_ne {K : Nat → List Nat} {u x : Nat} {ks : List Nat} (h : x ≠ u) : setK K u ks x = K x := if_neg h
theorem cnt_ge {K : Nat → List Nat} {u k : Nat} {ks : List Nat} : ∀ {n : Nat}, n ≤ u → cnt (setK K u ks) k n = cnt K k n
  | 0, _ => rfl
  | n + 1, h => by
    show cnt (setK K u ks) k n + _ = cnt K k n + _
    rw [cnt_ge (by omega), setK_ne (show n ≠ u by omega)]
theorem cnt_set {K : Nat → List Nat} {u k : Nat} {ks : List Nat} : ∀ {n : Nat}, u < n → cnt (setK K u ks) k n + (if k ∈ K u then 1 else 0) = cnt K k n + (if k ∈ ks then 1 else 0)
  | n + 1, h => by
    show (cnt (setK K u ks) k n + _) + _ = (cnt K k n + _) + _
    by_cases e : u = n
    · subst e
      rw [cnt_ge (Nat.le_refl _), setK_same]
      omega
    · rw [setK_ne (show n ≠ u by omega)]
      have ih := cnt_set (K := K) (k := k) (ks := ks) (show u < n by omega)
      omega
theorem cnt_out {K : Nat → List Nat} {k : Nat} : ∀ {n : Nat}, (∀ u, u < n → k ∉ K u) → cnt K k n = 0
  | 0, _ => rfl
  | n + 1, h => by
    show cnt K k n + _ = 0
    rw [cnt_out fun u hu => h u (by omega), if_neg (h n (by omega))]
theorem cnt_pos {K : Nat → List Nat} {u k : Nat} : ∀ {n : Nat}, u < n → k ∈ K u → 1 ≤ cnt K k n
  | n + 1, h, hk => by
    show 1 ≤ cnt K k n + _
    by_cases e : u = n
    · subst e
      rw [if_pos hk]
      omega
    · have := cnt_pos (show u < n by omega) hk
      omega
/-- two parents are two -/
theorem cnt_two {K : Nat → List Nat} {u v k : Nat} : ∀ {n : Nat}, u < v → v < n → k ∈ K u → k ∈ K v → 2 ≤ cnt K k n
  | n + 1, h, hv, hk, hl => by
    show 2 ≤ cnt K k n + _
    by_cases e : v = n
    · subst e
      rw [if_pos hl]
      have := cnt_pos h hk
      omega
    · have := cnt_two h (show v < n by omega) hk hl
      omega
theorem cnt_one {K : Nat → List Nat} {u v k n : Nat} (h : cnt K k n ≤ 1) (hu : u < n) (hv : v < n) (hk : k ∈ K u) (hl : k ∈ K v) : u = v := by
  rcases Nat.lt_trichotomy u v with z | z | z
  · have := cnt_two z hv hk hl
    omega
  · exact z
  · have := cnt_two z hu hl hk
    omega
theorem cnt_ex {K : Nat → List Nat} {k : Nat} : ∀ {n : Nat}, 1 ≤ cnt K k n → ∃ u, u < n ∧ k ∈ K u
  | n + 1, h => by
    have h' : 1 ≤ cnt K k n + (if k ∈ K n then 1 else 0) := h
    by_cases e : k ∈ K n
    · exact ⟨n, by omega, e⟩
    · rw [if_neg e] at h'
      obtain ⟨u, h1, h2⟩ := cnt_ex (show 1 ≤ cnt K k n by omega)
      exact ⟨u, by omega, h2⟩
/-- b in a's place -/
def rep (a b : Nat) (ks : List Nat) : List Nat := ks.map fun x => if x = a then b else x
theorem rep_len {a b : Nat} {ks : List Nat} : (rep a b ks).length = ks.length := List.length_map ..
theorem rep_mem {a b k : Nat} {ks : List Nat} (ha : a ∈ ks) : k ∈ rep a b ks ↔ k = b ∨ (k ∈ ks ∧ k ≠ a) := by
  unfold rep
  rw [List.mem_map]
  constructor
  · rintro ⟨x, hx, e⟩
    by_cases z : x = a
    · rw [if_pos z] at e
      exact .inl e.symm
    · rw [if_neg z] at e
      subst e
      exact .inr ⟨hx, z⟩
  · rintro (rfl | ⟨h1, h2⟩)
    · exact ⟨a, ha, if_pos rfl⟩
    · exact ⟨k, h1, if_neg h2⟩
theorem rep_nd {a b : Nat} : ∀ {ks : List Nat}, ks.Nodup → b ∉ ks → (rep a b ks).Nodup
  | [], _, _ => List.nodup_nil
  | x :: r, h, hb => by
    rw [List.nodup_cons] at h
    rw [List.mem_cons, not_or] at hb
    show ((if x = a then b else x) :: rep a b r).Nodup
    rw [List.nodup_cons]
    refine ⟨fun hm => ?_, rep_nd h.2 hb.2⟩
    unfold rep at hm
    obtain ⟨y, hy, e⟩ := List.mem_map.mp hm
    by_cases hx : x = a
    · rw [if_pos hx] at e
      by_cases hya : y = a
      · exact h.1 (by rw [hx, ← hya]; exact hy)
      · rw [if_neg hya] at e
        exact hb.2 (e ▸ hy)
    · rw [if_neg hx] at e
      by_cases hya : y = a
      · rw [if_pos hya] at e
        exact hb.1 e
      · rw [if_neg hya] at e
        exact h.1 (e ▸ hy)

/-- a web as drawn; x: a mixing whose second parent is still to come -/
structure GenX (L n : Nat) (K : Nat → List Nat) (x : Nat) : Prop where
  l1 : 1 ≤ L
  ln : L ≤ n
  out : ∀ u, n ≤ u → K u = []
  leaf : ∀ u, u < L → K u = []
  lt : ∀ u c, c ∈ K u → c < n
  nd : ∀ u, (K u).Nodup
  rk : ∃ r : Nat → Nat, ∀ u c, c ∈ K u → r c < r u
  one : ∀ u, L ≤ u → u < n → u ≠ x → cnt K u n ≤ 1 → 2 ≤ (K u).length
  mix : ∀ u, 2 ≤ cnt K u n → (K u).length = 1
  lf1 : ∀ u, u < L → cnt K u n ≤ 1
  bare : ∀ u, L ≤ u → u < n → ∃ c ∈ K u, cnt K c n ≤ 1 ∧ c ≠ x
  root : ∃ t, t < n ∧ ∀ k, k < n → (cnt K k n = 0 ↔ k = t)
/-- x is a kind with one child and a parent -/
structure Lone (L n : Nat) (K : Nat → List Nat) (x : Nat) : Prop where
  lx : L ≤ x
  xn : x < n
  len : (K x).length = 1
  up : 1 ≤ cnt K x n
/-- the whole one: no kind waits -/
def Gen (L n : Nat) (K : Nat → List Nat) : Prop := GenX L n K n
theorem Gen.at {L n : Nat} {K : Nat → List Nat} (g : Gen L n K) {x : Nat} (h2 : 2 ≤ cnt K x n) : GenX L n K x :=
  ⟨g.l1, g.ln, g.out, g.leaf, g.lt, g.nd, g.rk, fun u h1 h3 _ h4 => g.one u h1 h3 (by omega) h4, g.mix, g.lf1,
    fun u h1 h3 => by
      obtain ⟨c, a, b, _⟩ := g.bare u h1 h3
      exact ⟨c, a, b, fun z => by subst z; omega⟩, g.root⟩
/-- closed downwards -/
def Shut (K : Nat → List Nat) (D : Nat → Prop) : Prop := ∀ u c, D u → c ∈ K u → D c

/-- a kind x waiting for a parent (or with two of them already) gets one more -/
theorem gen_more {L n : Nat} {K : Nat → List Nat} {x high : Nat} {D : Nat → Prop} (g : GenX L n K x) (lx : Lone L n K x) (hh : L ≤ high) (hn : high < n) (hp : cnt K high n ≤ 1) (hx : high ≠ x) (hnot : x ∉ K high)
    (hD : Shut K D) (hDx : D x) (hDh : ¬ D high) : Gen L n (setK K high (K high ++ [x])) := by
  have hc : ∀ k, cnt (setK K high (K high ++ [x])) k n = cnt K k n + (if k = x then 1 else 0) := fun k => by
    have q := cnt_set (K := K) (k := k) (ks := K high ++ [x]) hn
    by_cases e : k = x
    · subst e
      rw [if_neg hnot, if_pos (show k ∈ K high ++ [k] by simp)] at q
      rw [if_pos rfl]
      omega
    · have : (k ∈ K high ++ [x]) ↔ k ∈ K high := by simp [e]
      simp only [this] at q
      rw [if_neg e]
      omega
  have mem : ∀ u c, c ∈ setK K high (K high ++ [x]) u → c ∈ K u ∨ (u = high ∧ c = x) := fun u c h => by
    by_cases e : u = high
    · subst e
      rw [setK_same] at h
      rcases List.mem_append.mp h with h | h
      · exact .inl h
      · exact .inr ⟨rfl, by simpa using h⟩
    · rw [setK_ne e] at h
      exact .inl h
  refine ⟨g.l1, g.ln, fun u hu => ?_, fun u hu => ?_, fun u c h => ?_, fun u => ?_, ?_, fun u h1 h2 _ h3 => ?_, fun u h2 => ?_, fun u hu => ?_, fun u h1 h2 => ?_, ?_⟩
  · rw [setK_ne (by omega)]
    exact g.out u hu
  · rw [setK_ne (by omega)]
    exact g.leaf u hu
  · rcases mem u c h with h | ⟨_, rfl⟩
    · exact g.lt u c h
    · exact lx.xn
  · by_cases e : u = high
    · subst e
      rw [setK_same, List.nodup_append]
      refine ⟨g.nd u, by simp, fun a ha b hb => ?_⟩
      have : b = x := by simpa using hb
      subst this
      exact fun z => hnot (z ▸ ha)
    · rw [setK_ne e]
      exact g.nd u
  · obtain ⟨r, hr⟩ := g.rk
    obtain ⟨M, hM⟩ : ∃ M, ∀ u, u < n → r u < M := by
      clear hc mem
      have key : ∀ m, ∃ M, ∀ u, u < m → r u < M := fun m => by
        induction m with
        | zero => exact ⟨0, fun u h => by omega⟩
        | succ m ih =>
          obtain ⟨M, h⟩ := ih
          refine ⟨M + r m + 1, fun u hu => ?_⟩
          by_cases e : u = m
          · subst e
            omega
          · have := h u (by omega)
            omega
      exact key n
    have Dd : ∀ u, Decidable (D u) := fun u => Classical.propDecidable _
    refine ⟨fun u => if D u then r u else M + r u, fun u c h => ?_⟩
    show (if D c then r c else M + r c) < (if D u then r u else M + r u)
    rcases mem u c h with h | ⟨rfl, rfl⟩
    · have q := hr u c h
      have qc := hM c (g.lt u c h)
      by_cases d : D u
      · rw [if_pos d, if_pos (hD u c d h)]
        exact q
      · rw [if_neg d]
        split <;> omega
    · have := hM c lx.xn
      rw [if_pos hDx, if_neg hDh]
      omega
  · rw [hc] at h3
    have hux : u ≠ x := fun z => by
      subst z
      rw [if_pos rfl] at h3
      have := lx.up
      omega
    rw [if_neg hux] at h3
    have q := g.one u h1 h2 hux (by omega)
    by_cases e : u = high
    · subst e
      rw [setK_same, List.length_append]
      omega
    · rw [setK_ne e]
      exact q
  · rw [hc] at h2
    by_cases hux : u = x
    · subst hux
      rw [setK_ne (Ne.symm hx)]
      exact lx.len
    · rw [if_neg hux] at h2
      have : u ≠ high := fun z => by
        subst z
        omega
      rw [setK_ne this]
      exact g.mix u (by omega)
  · rw [hc, if_neg (by have := lx.lx; omega)]
    exact g.lf1 u hu
  · obtain ⟨c, a, b, d⟩ := g.bare u h1 h2
    refine ⟨c, ?_, by rw [hc, if_neg d]; exact b, by have := g.lt u c a; omega⟩
    by_cases e : u = high
    · subst e
      rw [setK_same]
      exact List.mem_append_left _ a
    · rw [setK_ne e]
      exact a
  · obtain ⟨t, h1, h2⟩ := g.root
    refine ⟨t, h1, fun k hk => ?_⟩
    rw [hc]
    by_cases e : k = x
    · subst e
      rw [if_pos rfl]
      have q := h2 k hk
      have := lx.up
      constructor
      · intro z
        omega
      · intro z
        have := q.mpr z
        omega
    · rw [if_neg e]
      exact h2 k hk

theorem bound_of (r : Nat → Nat) : ∀ m : Nat, ∃ M, ∀ u, u < m → r u < M
  | 0 => ⟨0, fun u h => by omega⟩
  | m + 1 => by
    obtain ⟨M, h⟩ := bound_of r m
    refine ⟨M + r m + 1, fun u hu => ?_⟩
    by_cases e : u = m
    · subst e
      omega
    · have := h u (by omega)
      omega
/-- a new kind n between up and its child low -/
def betweenK (K : Nat → List Nat) (n up low : Nat) : Nat → List Nat := setK (setK K up (rep low n (K up))) n [low]
theorem gen_between {L n : Nat} {K : Nat → List Nat} {up low : Nat} (g : Gen L n K) (hu : up < n) (hl : low ∈ K up) (h1 : cnt K low n ≤ 1) (hb : ∃ c ∈ K up, c ≠ low ∧ cnt K c n ≤ 1) :
    GenX L (n + 1) (betweenK K n up low) n ∧ Lone L (n + 1) (betweenK K n up low) n ∧ (∀ k, k < n → cnt (betweenK K n up low) k (n + 1) = cnt K k n) ∧ (∀ D : Nat → Prop, Shut K D → D low → Shut (betweenK K n up low) fun u => D u ∨ u = n) := by
  have lown : low < n := g.lt _ _ hl
  have nup : n ∉ K up := fun z => by
    have := g.lt _ _ z
    omega
  have un : up ≠ n := by omega
  have upL : L ≤ up := by
    rcases Nat.lt_or_ge up L with z | z
    · rw [g.leaf up z] at hl
      cases hl
    · exact z
  have Kn : betweenK K n up low n = [low] := setK_same
  have Ku : betweenK K n up low up = rep low n (K up) := by
    unfold betweenK
    rw [setK_ne un, setK_same]
  have Ko : ∀ u, u ≠ n → u ≠ up → betweenK K n up low u = K u := fun u a b => by
    unfold betweenK
    rw [setK_ne a, setK_ne b]
  have c0 : cnt K n n = 0 := cnt_out fun u _ z => by
    have := g.lt _ _ z
    omega
  have hc : ∀ k, cnt (betweenK K n up low) k (n + 1) = if k = n then 1 else cnt K k n := fun k => by
    show cnt (betweenK K n up low) k n + (if k ∈ betweenK K n up low n then 1 else 0) = _
    rw [Kn]
    unfold betweenK
    rw [cnt_ge (Nat.le_refl n)]
    have q := cnt_set (K := K) (k := k) (ks := rep low n (K up)) hu
    simp only [rep_mem hl] at q
    by_cases e : k = n
    · subst e
      rw [if_pos rfl, if_neg (show k ∉ [low] by simp; omega)]
      rw [if_neg nup, if_pos (.inl rfl)] at q
      omega
    · rw [if_neg e]
      by_cases z : k = low
      · subst z
        rw [if_pos hl, if_neg (by simp [e])] at q
        rw [if_pos (by simp)]
        omega
      · rw [if_neg (show k ∉ [low] by simp [z])]
        have : (k = n ∨ (k ∈ K up ∧ k ≠ low)) ↔ k ∈ K up := by simp [e, z]
        simp only [this] at q
        omega
  have hck : ∀ k, k ≠ n → cnt (betweenK K n up low) k (n + 1) = cnt K k n := fun k e => by rw [hc, if_neg e]
  have mem : ∀ u c, c ∈ betweenK K n up low u → (u = n ∧ c = low) ∨ (u = up ∧ c = n) ∨ (u ≠ n ∧ c ∈ K u) := fun u c h => by
    by_cases e : u = n
    · subst e
      rw [Kn] at h
      exact .inl ⟨rfl, by simpa using h⟩
    · by_cases z : u = up
      · subst z
        rw [Ku, rep_mem hl] at h
        rcases h with h | ⟨h, _⟩
        · exact .inr (.inl ⟨rfl, h⟩)
        · exact .inr (.inr ⟨e, h⟩)
      · rw [Ko u e z] at h
        exact .inr (.inr ⟨e, h⟩)
  have len : ∀ u, u ≠ n → (betweenK K n up low u).length = (K u).length := fun u e => by
    by_cases z : u = up
    · subst z
      rw [Ku, rep_len]
    · rw [Ko u e z]
  refine ⟨⟨g.l1, by have := g.ln; omega, fun u h => ?_, fun u h => ?_, fun u c h => ?_, fun u => ?_, ?_, fun u a b d e => ?_, fun u h => ?_, fun u h => ?_, fun u a b => ?_, ?_⟩, ⟨g.ln, by omega, by rw [Kn]; rfl, by rw [hc, if_pos rfl]; exact Nat.le_refl _⟩, fun k hk => hck k (by omega), fun D hD hDl u c a h => ?_⟩
  · rw [Ko u (by omega) (by omega)]
    exact g.out u (by omega)
  · have := g.ln
    rw [Ko u (by omega) (by omega)]
    exact g.leaf u h
  · rcases mem u c h with ⟨_, rfl⟩ | ⟨_, rfl⟩ | ⟨_, h⟩
    · omega
    · omega
    · have := g.lt u c h
      omega
  · by_cases e : u = n
    · subst e
      rw [Kn]
      simp
    · by_cases z : u = up
      · subst z
        rw [Ku]
        exact rep_nd (g.nd u) nup
      · rw [Ko u e z]
        exact g.nd u
  · obtain ⟨r, hr⟩ := g.rk
    refine ⟨fun u => if u = n then 2 * r low + 1 else 2 * r u, fun u c h => ?_⟩
    show (if c = n then 2 * r low + 1 else 2 * r c) < (if u = n then 2 * r low + 1 else 2 * r u)
    rcases mem u c h with ⟨rfl, rfl⟩ | ⟨rfl, rfl⟩ | ⟨e, h⟩
    · rw [if_pos rfl, if_neg (by omega)]
      omega
    · have := hr u low hl
      rw [if_pos rfl, if_neg un]
      omega
    · have q := hr u c h
      have := g.lt u c h
      rw [if_neg e, if_neg (by omega)]
      omega
  · rw [hck u d] at e
    rw [len u d]
    exact g.one u a (by omega) (by omega) e
  · have e : u ≠ n := fun z => by
      subst z
      rw [hc, if_pos rfl] at h
      omega
    rw [hck u e] at h
    rw [len u e]
    exact g.mix u h
  · have := g.ln
    rw [hck u (by omega)]
    exact g.lf1 u h
  · by_cases e : u = n
    · subst e
      exact ⟨low, by rw [Kn]; simp, by rw [hck low (by omega)]; exact h1, by omega⟩
    · by_cases z : u = up
      · subst z
        obtain ⟨c, p1, p2, p3⟩ := hb
        have := g.lt _ _ p1
        exact ⟨c, by rw [Ku, rep_mem hl]; exact .inr ⟨p1, p2⟩, by rw [hck c (by omega)]; exact p3, by omega⟩
      · obtain ⟨c, p1, p2, _⟩ := g.bare u a (by omega)
        have := g.lt _ _ p1
        exact ⟨c, by rw [Ko u e z]; exact p1, by rw [hck c (by omega)]; exact p2, by omega⟩
  · obtain ⟨t, a, b⟩ := g.root
    refine ⟨t, by omega, fun k hk => ?_⟩
    by_cases e : k = n
    · subst e
      rw [hc, if_pos rfl]
      constructor
      · intro z
        omega
      · intro z
        omega
    · rw [hck k e]
      exact b k (by omega)
  · rcases mem u c h with ⟨rfl, rfl⟩ | ⟨rfl, rfl⟩ | ⟨e, h⟩
    · exact .inl hDl
    · exact .inr rfl
    · rcases a with a | a
      · exact .inl (hD u c a h)
      · exact absurd a e
/-- a new kind n above s, whose parent is v, with x for its second child -/
theorem gen_above {L n : Nat} {K : Nat → List Nat} {x s v : Nat} {D : Nat → Prop} (g : GenX L n K x) (lx : Lone L n K x) (hv : v < n) (hs : s ∈ K v) (h1 : cnt K s n ≤ 1) (hsx : s ≠ x) (hD : Shut K D) (hDx : D x) (hDv : ¬ D v) :
    Gen L (n + 1) (setK (setK K v (rep s n (K v))) n [s, x]) := by
  have sn : s < n := g.lt _ _ hs
  have xn := lx.xn
  have nv : n ∉ K v := fun z => by
    have := g.lt _ _ z
    omega
  have vn : v ≠ n := by omega
  have vx : v ≠ x := fun z => hDv (z ▸ hDx)
  have vL : L ≤ v := by
    rcases Nat.lt_or_ge v L with z | z
    · rw [g.leaf v z] at hs
      cases hs
    · exact z
  let K' := setK (setK K v (rep s n (K v))) n [s, x]
  have Kn : K' n = [s, x] := setK_same
  have Kv : K' v = rep s n (K v) := by
    show setK (setK K v (rep s n (K v))) n [s, x] v = _
    rw [setK_ne vn, setK_same]
  have Ko : ∀ u, u ≠ n → u ≠ v → K' u = K u := fun u a b => by
    show setK (setK K v (rep s n (K v))) n [s, x] u = _
    rw [setK_ne a, setK_ne b]
  have c0 : cnt K n n = 0 := cnt_out fun u _ z => by
    have := g.lt _ _ z
    omega
  have hc : ∀ k, cnt K' k (n + 1) = if k = n then 1 else if k = x then cnt K x n + 1 else cnt K k n := fun k => by
    show cnt K' k n + (if k ∈ K' n then 1 else 0) = _
    rw [Kn]
    show cnt (setK (setK K v (rep s n (K v))) n [s, x]) k n + _ = _
    rw [cnt_ge (Nat.le_refl n)]
    have q := cnt_set (K := K) (k := k) (ks := rep s n (K v)) hv
    simp only [rep_mem hs] at q
    by_cases e : k = n
    · subst e
      rw [if_pos rfl, if_neg (show k ∉ [s, x] by simp; omega)]
      rw [if_neg nv, if_pos (.inl rfl)] at q
      omega
    · rw [if_neg e]
      by_cases z : k = s
      · subst z
        rw [if_pos hs, if_neg (by simp [e])] at q
        rw [if_pos (by simp), if_neg hsx]
        omega
      · have : (k = n ∨ (k ∈ K v ∧ k ≠ s)) ↔ k ∈ K v := by simp [e, z]
        simp only [this] at q
        by_cases y : k = x
        · subst y
          rw [if_pos (by simp), if_pos rfl]
          omega
        · rw [if_neg (show k ∉ [s, x] by simp [z, y]), if_neg y]
          omega
  have hcn : cnt K' n (n + 1) = 1 := by rw [hc, if_pos rfl]
  have hcx : cnt K' x (n + 1) = cnt K x n + 1 := by rw [hc, if_neg (by omega), if_pos rfl]
  have hck : ∀ k, k ≠ n → k ≠ x → cnt K' k (n + 1) = cnt K k n := fun k a b => by rw [hc, if_neg a, if_neg b]
  have mem : ∀ u c, c ∈ K' u → (u = n ∧ c = s) ∨ (u = n ∧ c = x) ∨ (u = v ∧ c = n) ∨ (u ≠ n ∧ c ∈ K u) := fun u c h => by
    by_cases e : u = n
    · subst e
      rw [Kn] at h
      have : c = s ∨ c = x := by simpa using h
      rcases this with h | h
      · exact .inl ⟨rfl, h⟩
      · exact .inr (.inl ⟨rfl, h⟩)
    · by_cases z : u = v
      · subst z
        rw [Kv, rep_mem hs] at h
        rcases h with h | ⟨h, _⟩
        · exact .inr (.inr (.inl ⟨rfl, h⟩))
        · exact .inr (.inr (.inr ⟨e, h⟩))
      · rw [Ko u e z] at h
        exact .inr (.inr (.inr ⟨e, h⟩))
  have len : ∀ u, u ≠ n → (K' u).length = (K u).length := fun u e => by
    by_cases z : u = v
    · subst z
      rw [Kv, rep_len]
    · rw [Ko u e z]
  show GenX L (n + 1) K' (n + 1)
  refine ⟨g.l1, by have := g.ln; omega, fun u h => ?_, fun u h => ?_, fun u c h => ?_, fun u => ?_, ?_, fun u a b _ e => ?_, fun u h => ?_, fun u h => ?_, fun u a b => ?_, ?_⟩
  · rw [Ko u (by omega) (by omega)]
    exact g.out u (by omega)
  · have := g.ln
    rw [Ko u (by omega) (by omega)]
    exact g.leaf u h
  · rcases mem u c h with ⟨_, rfl⟩ | ⟨_, rfl⟩ | ⟨_, rfl⟩ | ⟨_, h⟩
    · omega
    · omega
    · omega
    · have := g.lt u c h
      omega
  · by_cases e : u = n
    · subst e
      rw [Kn]
      simp [hsx]
    · by_cases z : u = v
      · subst z
        rw [Kv]
        exact rep_nd (g.nd u) nv
      · rw [Ko u e z]
        exact g.nd u
  · obtain ⟨r, hr⟩ := g.rk
    obtain ⟨M, hM⟩ := bound_of (fun u => 2 * r u) n
    have Dd : ∀ u, Decidable (D u) := fun u => Classical.propDecidable _
    let r' : Nat → Nat := fun u => if u = n then (if D s then M + 1 else M + 2 + 2 * r s + 1) else if D u then 2 * r u else M + 2 + 2 * r u
    have ro : ∀ u, u ≠ n → r' u = if D u then 2 * r u else M + 2 + 2 * r u := fun u e => if_neg e
    have rn : r' n = if D s then M + 1 else M + 2 + 2 * r s + 1 := if_pos rfl
    have hMs : 2 * r s < M := hM s sn
    have hMx : 2 * r x < M := hM x xn
    refine ⟨r', fun u c h => ?_⟩
    rcases mem u c h with ⟨rfl, rfl⟩ | ⟨rfl, rfl⟩ | ⟨rfl, rfl⟩ | ⟨e, h⟩
    · rw [rn, ro c (by omega)]
      by_cases d : D c
      · rw [if_pos d, if_pos d]
        omega
      · rw [if_neg d, if_neg d]
        omega
    · rw [rn, ro c (by omega), if_pos hDx]
      split <;> omega
    · have := hr u s hs
      rw [rn, ro u vn, if_neg hDv]
      split <;> omega
    · have q := hr u c h
      have cn := g.lt u c h
      have hMc : 2 * r c < M := hM c cn
      rw [ro u e, ro c (by omega)]
      by_cases d : D u
      · rw [if_pos d, if_pos (hD u c d h)]
        omega
      · rw [if_neg d]
        split <;> omega
  · by_cases z : u = n
    · subst z
      rw [Kn]
      exact Nat.le_refl 2
    · have y : u ≠ x := fun y => by
        subst y
        rw [hcx] at e
        have := lx.up
        omega
      rw [hck u z y] at e
      rw [len u z]
      exact g.one u a (by omega) y e
  · have z : u ≠ n := fun z => by
      subst z
      rw [hcn] at h
      omega
    rw [len u z]
    by_cases y : u = x
    · subst y
      exact lx.len
    · rw [hck u z y] at h
      exact g.mix u h
  · have := g.ln
    have := lx.lx
    rw [hck u (by omega) (by omega)]
    exact g.lf1 u h
  · by_cases z : u = n
    · subst z
      exact ⟨s, by rw [Kn]; simp, by rw [hck s (by omega) hsx]; exact h1, by omega⟩
    · obtain ⟨c, p1, p2, p3⟩ := g.bare u a (by omega)
      have cn := g.lt _ _ p1
      by_cases y : u = v
      · subst y
        by_cases cs : c = s
        · subst cs
          exact ⟨n, by rw [Kv, rep_mem hs]; exact .inl rfl, by rw [hcn]; exact Nat.le_refl _, by omega⟩
        · exact ⟨c, by rw [Kv, rep_mem hs]; exact .inr ⟨p1, cs⟩, by rw [hck c (by omega) p3]; exact p2, by omega⟩
      · exact ⟨c, by rw [Ko u z y]; exact p1, by rw [hck c (by omega) p3]; exact p2, by omega⟩
  · obtain ⟨t, a, b⟩ := g.root
    refine ⟨t, by omega, fun k hk => ?_⟩
    by_cases z : k = n
    · subst z
      rw [hcn]
      constructor
      · intro z
        omega
      · intro z
        omega
    · by_cases y : k = x
      · subst y
        have q := b k lx.xn
        have := lx.up
        rw [hcx]
        constructor
        · intro z
          omega
        · intro z
          have := q.mpr z
          omega
      · rw [hck k z y]
        exact b k (by omega)
/-- a new root n above the root s -/
theorem gen_top {L n : Nat} {K : Nat → List Nat} {x s : Nat} (g : GenX L n K x) (lx : Lone L n K x) (hs : s < n) (h0 : cnt K s n = 0) : Gen L (n + 1) (setK K n [s, x]) := by
  have xn := lx.xn
  have hsx : s ≠ x := fun z => by
    have := lx.up
    subst z
    omega
  let K' := setK K n [s, x]
  have Kn : K' n = [s, x] := setK_same
  have Ko : ∀ u, u ≠ n → K' u = K u := fun u a => setK_ne a
  have c0 : cnt K n n = 0 := cnt_out fun u _ z => by
    have := g.lt _ _ z
    omega
  have hc : ∀ k, cnt K' k (n + 1) = if k = s then 1 else if k = x then cnt K x n + 1 else cnt K k n := fun k => by
    show cnt (setK K n [s, x]) k n + (if k ∈ K' n then 1 else 0) = _
    rw [cnt_ge (Nat.le_refl n), Kn]
    by_cases z : k = s
    · subst z
      rw [if_pos (by simp), if_pos rfl]
      omega
    · by_cases y : k = x
      · subst y
        rw [if_pos (by simp), if_neg z, if_pos rfl]
      · rw [if_neg (show k ∉ [s, x] by simp [z, y]), if_neg z, if_neg y]
        rfl
  have hcs : cnt K' s (n + 1) = 1 := by rw [hc, if_pos rfl]
  have hcx : cnt K' x (n + 1) = cnt K x n + 1 := by rw [hc, if_neg (Ne.symm hsx), if_pos rfl]
  have hck : ∀ k, k ≠ s → k ≠ x → cnt K' k (n + 1) = cnt K k n := fun k a b => by rw [hc, if_neg a, if_neg b]
  have hcn : cnt K' n (n + 1) = 0 := by rw [hck n (by omega) (by omega)]; exact c0
  have mem : ∀ u c, c ∈ K' u → (u = n ∧ (c = s ∨ c = x)) ∨ (u ≠ n ∧ c ∈ K u) := fun u c h => by
    by_cases e : u = n
    · subst e
      rw [Kn] at h
      exact .inl ⟨rfl, by simpa using h⟩
    · rw [Ko u e] at h
      exact .inr ⟨e, h⟩
  have le1 : ∀ k, k ≠ x → cnt K k n ≤ 1 → cnt K' k (n + 1) ≤ 1 := fun k y h => by
    by_cases z : k = s
    · subst z
      rw [hcs]
      exact Nat.le_refl _
    · rw [hck k z y]
      exact h
  show GenX L (n + 1) K' (n + 1)
  refine ⟨g.l1, by have := g.ln; omega, fun u h => ?_, fun u h => ?_, fun u c h => ?_, fun u => ?_, ?_, fun u a b _ e => ?_, fun u h => ?_, fun u h => ?_, fun u a b => ?_, ?_⟩
  · rw [Ko u (by omega)]
    exact g.out u (by omega)
  · have := g.ln
    rw [Ko u (by omega)]
    exact g.leaf u h
  · rcases mem u c h with ⟨_, rfl | rfl⟩ | ⟨_, h⟩
    · omega
    · omega
    · have := g.lt u c h
      omega
  · by_cases e : u = n
    · subst e
      rw [Kn]
      simp [hsx]
    · rw [Ko u e]
      exact g.nd u
  · obtain ⟨r, hr⟩ := g.rk
    obtain ⟨M, hM⟩ := bound_of r n
    refine ⟨fun u => if u = n then M else r u, fun u c h => ?_⟩
    show (if c = n then M else r c) < (if u = n then M else r u)
    rcases mem u c h with ⟨rfl, h⟩ | ⟨e, h⟩
    · have cn : c < u := by omega
      rw [if_pos rfl, if_neg (by omega)]
      exact hM c cn
    · have := g.lt u c h
      rw [if_neg e, if_neg (by omega)]
      exact hr u c h
  · by_cases z : u = n
    · subst z
      rw [Kn]
      exact Nat.le_refl 2
    · have y : u ≠ x := fun y => by
        subst y
        rw [hcx] at e
        have := lx.up
        omega
      rw [Ko u z]
      refine g.one u a (by omega) y ?_
      by_cases w : u = s
      · subst w
        omega
      · rw [hck u w y] at e
        exact e
  · have z : u ≠ n := fun z => by
      subst z
      rw [hcn] at h
      omega
    rw [Ko u z]
    by_cases y : u = x
    · subst y
      exact lx.len
    · have w : u ≠ s := fun w => by
        subst w
        rw [hcs] at h
        omega
      rw [hck u w y] at h
      exact g.mix u h
  · have := g.ln
    have := lx.lx
    exact le1 u (by omega) (g.lf1 u h)
  · by_cases z : u = n
    · subst z
      exact ⟨s, by rw [Kn]; simp, by rw [hcs]; exact Nat.le_refl _, by omega⟩
    · obtain ⟨c, p1, p2, p3⟩ := g.bare u a (by omega)
      have cn := g.lt _ _ p1
      exact ⟨c, by rw [Ko u z]; exact p1, le1 c p3 p2, by omega⟩
  · obtain ⟨t, a, b⟩ := g.root
    have hst : s = t := (b s hs).mp h0
    refine ⟨n, by omega, fun k hk => ?_⟩
    by_cases z : k = n
    · subst z
      exact ⟨fun _ => rfl, fun _ => hcn⟩
    · refine ⟨fun h => ?_, fun h => absurd h z⟩
      exfalso
      by_cases w : k = s
      · subst w
        omega
      · by_cases y : k = x
        · subst y
          omega
        · rw [hck k w y] at h
          exact w (hst ▸ (b k (by omega)).mp h)
end WR
set_option Elab.async false
set_option linter.all false
set_option maxRecDepth 100000
set_option maxHeartbeats 1000000
namespace WR
open PySem PySem.Spec PyProof.Rows L2 Evl

/-! ### lists of lists that change -/
def nV (k : Nat) : V := .int (k : Int)
def nVs (ks : List Nat) : List V := ks.map nV
def natDs (ks : List Nat) : List PyData := ks.map natD
structure KdAt (H : Hp) (p : Addr) (rs : List Addr) (kk : List (List Nat)) : Prop where
  at_ : H p = some (.lst (rs.map V.ref))
  len : rs.length = kk.length
  nd : rs.Nodup
  np : p ∉ rs
  row : ∀ (i : Nat) r ks, rs[i]? = some r → kk[i]? = some ks → H r = some (.lst (nVs ks))
theorem KdAt.ex {H H' : Hp} {p : Addr} {rs : List Addr} {kk : List (List Nat)} (h : KdAt H p rs kk) (e : Ex H H') : KdAt H' p rs kk :=
  ⟨e _ _ h.at_, h.len, h.nd, h.np, fun i r ks a b => e _ _ (h.row i r ks a b)⟩
/-- the sizes are small -/
def Sml (kk : List (List Nat)) : Prop := kk.length ≤ 40 ∧ ∀ ks ∈ kk, ks.length ≤ 40
theorem dpAll_nat {K : PySem.W.Frag} {H : Hp} : ∀ ks : List Nat, DpAll K H (nVs ks) (natDs ks)
  | [] => .nil
  | _ :: ks => .cons (.int _) (dpAll_nat ks)
theorem nats_of {K : PySem.W.Frag} {H : Hp} : ∀ {vs : List V} {ks : List Nat}, DpAll K H vs (natDs ks) → vs = nVs ks
  | _, [], h => by cases h; rfl
  | _, _ :: ks, h => by
    cases h with
    | cons a b => cases a; rw [nats_of b]; rfl
theorem inV_nat {k : Nat} : ∀ {ks : List Nat}, inV (nV k) (nVs ks) = decide (k ∈ ks)
  | [] => rfl
  | x :: ks => by
    show (eqV (nV x) (nV k) || inV (nV k) (nVs ks)) = _
    rw [inV_nat]
    show (((x : Int) == (k : Int)) || decide (k ∈ ks)) = _
    by_cases e : x = k
    · subst e
      simp
    · have : ((x : Int) == (k : Int)) = false := beq_eq_false_iff_ne.mpr (by omega)
      rw [this, Bool.false_or]
      simp [Ne.symm e]
theorem flat_nVs : ∀ ks : List Nat, (nVs ks).all flatV = true
  | [] => rfl
  | _ :: ks => by
    show (true && (nVs ks).all flatV) = true
    rw [flat_nVs ks]
    rfl
theorem nVs_at {ks : List Nat} {i k : Nat} (h : ks[i]? = some k) : (nVs ks)[i]? = some (nV k) := by
  unfold nVs
  rw [List.getElem?_map, h]
  rfl
section
variable {K : PySem.W.Frag} {σ : L2.St} {H H' : Hp} {ta tb te tx : TE} {p : Addr} {rs : List Addr} {kk : List (List Nat)}
theorem KdAt.get (h : KdAt H p rs kk) {i : Nat} {ks : List Nat} (hi : kk[i]? = some ks) : ∃ r, rs[i]? = some r ∧ H r = some (.lst (nVs ks)) := by
  have hl := (List.getElem?_eq_some_iff.mp hi).1
  have hr : rs[i]? = some (rs[i]'(by rw [h.len]; exact hl)) := List.getElem?_eq_getElem _
  exact ⟨_, hr, h.row i _ ks hr hi⟩
/-- kids[i] -/
theorem ev_row (h : KdAt H p rs kk) {i : Nat} {r : Addr} (hr : rs[i]? = some r) (ha : Ev ta σ H (.ref p)) (hb : Ev tb σ H (nV i)) : Ev (tOp (rIxL K) ta tb) σ H (.ref r) :=
  ev_op ha hb (rv_ixL (sq_of h.at_) (atI_nat (by rw [List.getElem?_map, hr]; rfl)))
end

/-! ### _law_one -/
def spOne (K : PySem.W.Frag) : Sp := fun vs H Q _ => ∃ p L ns N i xs, vs = [.ref p, .ref i] ∧ Dk H p L ns N ∧ N ≤ 1000000000 ∧ H i = some (.lst xs) ∧ i ≠ p ∧ 1 ≤ xs.length ∧ xs.length ≤ 1000000 ∧
  ∀ x H', x ∈ xs → Ex (rem H p) H' → Dk H' p L ns (N + 1) → Q x H'
theorem scOne : FnScope ["_law_deck_here", "_law_items"] ["_law_deck_here", "_law_items"] (defScope sOne) := ⟨rfl, rfl, rfl, by decide +kernel, rfl, by decide +kernel, by decide +kernel⟩
/-! ### _law_ups -/
def upsL (kk : List (List Nat)) (k : Nat) : List Nat := (List.range kk.length).filter fun u => decide (k ∈ kk.getD u [])
def spUps (K : PySem.W.Frag) : Sp := fun vs H Q _ => ∃ p rs kk k, vs = [.ref p, nV k] ∧ KdAt H p rs kk ∧ Sml kk ∧ ∀ l H', H l = none → Ex H H' → H' l = some (.lst (nVs (upsL kk k))) → Q (.ref l) H'
abbrev nUps : List Str := ["_law_kids_here", "_law_kind", "_law_up"]
theorem scUps : FnScope nUps ["_law_kids_here", "_law_kind"] (defScope sUps) := ⟨rfl, rfl, rfl, by decide +kernel, rfl, by decide +kernel, by decide +kernel⟩
section
variable {P : Program} {w : World} {K : PySem.W.Frag} {mg : Str → Option Value} {base : Heap}
theorem ok_one {f fW : Addr} {fd fdW : FuncData} (F : Fun K "_law_one" "_law_one" sOne f fd) (FW : Fun K "_law_draw" "_law_draw" sDraw fW fdW) (bW : Binds K fdW ["_law_deck_here", "_law_many"] []) (gW : mg "_law_draw" = some (.ref fW)) (m3 : mg "len" = none)
    (GW : FnOk P w K mg base CX0 1 fW fdW ["_law_deck_here", "_law_many"] spDraw) : FnOk P w K mg base CX0 2 f fd ["_law_deck_here", "_law_items"] (spOne K) := by
  refine F.ok scOne (fun vs H Q E h => ?_) (fun cdv A outer s H vs Q E hr h => ?_)
  · obtain ⟨p, L, ns, N, i, xs, rfl, _⟩ := h
    rfl
  obtain ⟨p, L, ns, N, i, xs, rfl, hD, hN, hi, hne, h1, h2, q⟩ := h
  refine ⟨_, pss_one (ps_ret (pe_ix ix_list (pv 1) (pe_call GW hr (by rfl) gW FW.kp bW .nil pass0 (pa_cons (pv 0) (pa_cons (pe_callB call_len_seq (by rfl) m3 PySem.boot_len (pa_cons (pv 1) pa_nil)) pa_nil))) (fun _ _ => rfl))), ?_⟩
  refine ⟨.ref i, rfl, .ref p, rfl, .ref i, rfl, i, xs, rfl, .inl (sq_of hi), p, L, ns, _, N, rfl, hD, hN, by omega, by omega, fun r H' hr0 hr1 e hD' => ?_⟩
  have hi' : H' i = some (.lst xs) := e _ _ (by rw [rem_ne hne]; exact hi)
  obtain ⟨k, rfl⟩ : ∃ k : Nat, r = (k : Int) := ⟨r.toNat, (Int.toNat_of_nonneg hr0).symm⟩
  have hk : k < xs.length := by omega
  exact ⟨i, xs, (k : Int), xs[k], rfl, rfl, sq_of hi', atI_nat (by rw [List.getElem?_eq_getElem hk]), q _ H' (List.getElem_mem hk) e hD'⟩
theorem ok_ups {f : Addr} {fd : FuncData} (F : Fun K "_law_ups" "_law_ups" sUps f fd) (m1 : mg "range" = none) (m3 : mg "len" = none) : FnOk P w K mg base CX0 1 f fd ["_law_kids_here", "_law_kind"] (spUps K) := by
  refine F.ok scUps (fun vs H Q E h => ?_) (fun cdv A outer s H vs Q E hr h => ?_)
  · obtain ⟨p, rs, kk, k, rfl, _⟩ := h
    rfl
  obtain ⟨p, rs, kk, k, rfl, hK, hS, q⟩ := h
  refine ⟨_, pss_one (ps_ret (pe_lc (own := [("_law_up", 2)]) (g := gName 2) rfl scUps.nd (pi_range1 (by rfl) m1 (pa_cons (pe_callB call_len_seq (by rfl) m3 PySem.boot_len (pa_cons (pv 0) pa_nil)) pa_nil)) (blkOk_by (N := nUps) (sc := defScope sUps) (by decide +kernel))
      (fun _ _ _ _ _ => pg_name (i := 2) scUps.nd rfl (Or.inl rfl)) (fun _ _ _ _ _ => pts_one (pt_cmpR (r := rIn K false) op_in_seq (pv 1) (pe_ix (r := rIxL K) ix_list (pv 0) (pv 2) (fun _ _ => rfl)) rfl)) (fun _ _ _ _ _ => pv 2))), ?_⟩
  have hl := hS.1
  let g : PyData → Option PyData := fun d => match d with | .int i => if decide (k ∈ kk.getD i.toNat []) = true then some (.int i) else none | _ => none
  have hR : SrcS K (iRng1 (tCons (tCB (fun xs H Q => ∃ p ys, xs = [.ref p] ∧ (SqL K H p ys ∨ SqT K H p ys) ∧ Q (.int ys.length) H) (tCons (tVar 0) tNil)) tNil)) (start nUps [.ref p, nV k]) H (rngD 0 kk.length) := by
    have q1 := srcS_R1 (K := K) (σ := start nUps [.ref p, nV k]) (H := H) (n := (kk.length : Int)) (ta := tCons (tCB (fun xs H Q => ∃ p ys, xs = [.ref p] ∧ (SqL K H p ys ∨ SqT K H p ys) ∧ Q (.int ys.length) H) (tCons (tVar 0) tNil)) tNil)
      (ea_cons (ev_is (ev_len (K := K) (ev_var rfl) (sq_of hK.at_)) (by rw [List.length_map, hK.len])) ea_nil) (by omega)
    rw [Int.toNat_natCast] at q1
    exact q1
  refine en_lc (K := K) (ds := rngD 0 kk.length) g hR.src (by rw [rngD_len]; omega) (fun _ => rfl) (fun d v H3 e3 hd hv => ?_) (fun d r v H3 e3 hd hv hr => ?_) (fun d r hd hr => ?_) H (Ex.refl H) _ fun l xs H1 hl e1 h1 h2 => ?_
  · obtain ⟨i, hi, rfl⟩ := List.mem_map.mp hd
    have hi := List.mem_range.mp hi
    rw [show (0 : Int) + (i : Int) = (i : Int) by omega] at hv ⊢
    cases dp_int hv
    obtain ⟨r, hr, hrow⟩ := (hK.ex e3).get (List.getElem?_eq_getElem hi)
    refine et_is (et_test (ev_op (x := nV k) (y := .ref r) (ev_var rfl) (ev_row (hK.ex e3) hr (ev_var rfl) (ev_var rfl)) (rv_isL (sq_of hrow) rfl (flat_nVs _)))) ?_
    rw [inV_nat]
    show _ = (if decide (k ∈ kk.getD i []) = true then some (PyData.int (i : Int)) else none).isSome
    rw [List.getD_eq_getElem?_getD, List.getElem?_eq_getElem hi]
    show decide (k ∈ kk[i]) = (if decide (k ∈ kk[i]) = true then some (PyData.int (i : Int)) else none).isSome
    by_cases z : k ∈ kk[i]
    · rw [decide_eq_true z]
      rfl
    · rw [decide_eq_false z]
      rfl
  · obtain ⟨i, hi, rfl⟩ := List.mem_map.mp hd
    have hr : (if decide (k ∈ kk.getD ((0 : Int) + (i : Int)).toNat []) = true then some (PyData.int ((0 : Int) + (i : Int))) else none) = some r := hr
    split at hr
    · cases hr
      exact ed_var rfl hv
    · cases hr
  · obtain ⟨i, hi, rfl⟩ := List.mem_map.mp hd
    have hr : (if decide (k ∈ kk.getD ((0 : Int) + (i : Int)).toNat []) = true then some (PyData.int ((0 : Int) + (i : Int))) else none) = some r := hr
    split at hr
    · cases hr
      rfl
    · cases hr
  · have e : (rngD 0 kk.length).filterMap g = natDs (upsL kk k) := by
      unfold rngD natDs upsL
      rw [List.filterMap_map]
      have key : ∀ l : List Nat, l.filterMap (g ∘ fun (j : Nat) => PyData.int ((0 : Int) + (j : Int))) = (l.filter fun u => decide (k ∈ kk.getD u [])).map natD := fun l => by
        induction l with
        | nil => rfl
        | cons x r ih =>
          have e0 : (g ∘ fun (j : Nat) => PyData.int ((0 : Int) + (j : Int))) x = if decide (k ∈ kk.getD x []) = true then some (natD x) else none := by
            show (if decide (k ∈ kk.getD ((0 : Int) + (x : Int)).toNat []) = true then some (PyData.int ((0 : Int) + (x : Int))) else none) = _
            rw [show ((0 : Int) + (x : Int)).toNat = x by omega, show (0 : Int) + (x : Int) = (x : Int) by omega]
            rfl
          rw [List.filterMap_cons, List.filter_cons, e0, ih]
          by_cases z : k ∈ kk.getD x []
          · rw [decide_eq_true z]
            rfl
          · rw [decide_eq_false z]
            rfl
      exact key _
    rw [e] at h2
    rw [nats_of h2] at h1
    exact q l H1 hl e1 h1
end
end WR
set_option Elab.async false
set_option linter.all false
set_option maxRecDepth 100000
set_option maxHeartbeats 1000000
namespace WR
open PySem PySem.Spec PyProof.Rows L2 Evl

/-! ### _law_down: all that is beneath -/
def un (S : List Nat) : Nat → Nat
  | 0 => 0
  | m + 1 => un S m + (if m ∈ S then 0 else 1)
theorem un_nil : ∀ n, un [] n = n
  | 0 => rfl
  | n + 1 => by
    show un [] n + (if n ∈ ([] : List Nat) then 0 else 1) = n + 1
    rw [un_nil n]
    rfl
theorem un_ge {S : List Nat} {x : Nat} : ∀ {n : Nat}, n ≤ x → un (S ++ [x]) n = un S n
  | 0, _ => rfl
  | n + 1, h => by
    show un (S ++ [x]) n + _ = un S n + _
    rw [un_ge (by omega)]
    have : (n ∈ S ++ [x]) ↔ n ∈ S := by simp; omega
    simp only [this]
theorem un_add {S : List Nat} {x : Nat} : ∀ {n : Nat}, x < n → x ∉ S → un (S ++ [x]) n + 1 = un S n
  | n + 1, h, hx => by
    show (un (S ++ [x]) n + _) + 1 = un S n + _
    by_cases e : x = n
    · subst e
      rw [un_ge (Nat.le_refl _), if_neg hx, if_pos (by simp)]
    · have ih := un_add (S := S) (show x < n by omega) hx
      have : (n ∈ S ++ [x]) ↔ n ∈ S := by simp; omega
      simp only [this]
      omega
def dKs (S : List Nat) : List (Key × V) := S.map fun (k : Nat) => (Sum.inl (k : Int), V.bl true)
theorem dKs_val {k : Nat} : ∀ {S : List Nat}, valV (dKs S) (Sum.inl (k : Int)) = if k ∈ S then some (V.bl true) else none
  | [] => rfl
  | x :: S => by
    by_cases e : x = k
    · subst e
      rw [if_pos (List.mem_cons_self ..)]
      exact valV_pos rfl
    · have hn : ¬ ((Sum.inl (x : Int) : Key) = Sum.inl (k : Int)) := fun z => e (by
        have := Sum.inl.inj z
        omega)
      show valV ((Sum.inl (x : Int), V.bl true) :: dKs S) _ = _
      rw [valV_neg hn, dKs_val]
      have : (k ∈ x :: S) ↔ k ∈ S := by simp [Ne.symm e]
      simp only [this]
theorem dKs_put {k : Nat} {S : List Nat} (h : k ∉ S) : putK (dKs S) (Sum.inl (k : Int)) (V.bl true) = dKs (S ++ [k]) := by
  rw [putK_new _ (by rw [dKs_val, if_neg h])]
  unfold dKs
  rw [List.map_append]
  rfl
def rowAt (kk : List (List Nat)) (u : Nat) : List Nat := kk.getD u []
/-- S: what is beneath kind, and it -/
structure Beneath (kk : List (List Nat)) (kind : Nat) (S : List Nat) : Prop where
  nd : S.Nodup
  self : kind ∈ S
  shut : ∀ u c, u ∈ S → c ∈ rowAt kk u → c ∈ S
  least : ∀ T : Nat → Prop, T kind → (∀ u c, T u → c ∈ rowAt kk u → T c) → ∀ x ∈ S, T x
  lt : ∀ x ∈ S, x < kk.length
def spDown (K : PySem.W.Frag) : Sp := fun vs H Q _ => ∃ p rs kk k, vs = [.ref p, nV k] ∧ KdAt H p rs kk ∧ Sml kk ∧ k < kk.length ∧ (∀ ks ∈ kk, ∀ c ∈ ks, c < kk.length) ∧
  ∀ d H' S, Beneath kk k S → H d = none → Ex H H' → H' d = some (.dK (dKs S)) → Q (.ref d) H'
abbrev nDown : List Str := ["_law_kids_here", "_law_kind", "_law_found", "_law_left", "_law_one_here"]
theorem scDown : FnScope nDown ["_law_kids_here", "_law_kind"] (defScope sDown) := ⟨rfl, rfl, rfl, by decide +kernel, rfl, by decide +kernel, by decide +kernel⟩
theorem eqv_nats_nil : ∀ ks : List Nat, PyData.eqv (.list (natDs ks)) (.list []) = ks.isEmpty
  | [] => by simp [natDs, PyData.eqv, PyData.eqvAll]
  | _ :: _ => by simp [natDs, PyData.eqv, PyData.eqvAll]
theorem shaped_nats (ks : List Nat) : SeqAt.shaped (.list (natDs ks)) = true := by
  have e : natDs ks = (ks.map fun (k : Nat) => (k : Int)).map PyData.int := by
    unfold natDs
    rw [List.map_map]
    rfl
  rw [e]
  exact shaped_ints _
/-- xs != [] -/
theorem et_neNil {K : PySem.W.Frag} {σ : L2.St} {H : Hp} {ta : TE} {l : Addr} {ks : List Nat} (ha : Ev ta σ H (.ref l)) (hl : H l = some (.lst (nVs ks))) : EvT (tTest (tOp (rNeD K) ta (tLst tNil))) σ H (!ks.isEmpty) :=
  et_test (ev_opL (x := .ref l) (xs := []) ha (el_lst ea_nil (by simp)) fun q H1 h1 e1 H2 e2 Q q2 => by
    refine ⟨.list (natDs ks), .list [], .lst (sq_of (e2 _ _ (e1 _ _ hl))) (dpAll_nat ks), .lst (sq_of (e2 _ _ h1)) .nil, shaped_nats ks, shaped_ints [], ?_⟩
    rw [eqv_nats_nil]
    exact q2 H2 (Ex.refl H2))
theorem et_eqNil {K : PySem.W.Frag} {σ : L2.St} {H : Hp} {ta : TE} {l : Addr} {ks : List Nat} (ha : Ev ta σ H (.ref l)) (hl : H l = some (.lst (nVs ks))) : EvT (tTest (tOp (rEqD K) ta (tLst tNil))) σ H ks.isEmpty :=
  et_test (ev_opL (x := .ref l) (xs := []) ha (el_lst ea_nil (by simp)) fun q H1 h1 e1 H2 e2 Q q2 => by
    refine ⟨.list (natDs ks), .list [], .lst (sq_of (e2 _ _ (e1 _ _ hl))) (dpAll_nat ks), .lst (sq_of (e2 _ _ h1)) .nil, shaped_nats ks, shaped_ints [], ?_⟩
    rw [eqv_nats_nil]
    exact q2 H2 (Ex.refl H2))
/-- x = xs.pop() -/
theorem q_pop {K : PySem.W.Frag} {σ : L2.St} {H : Hp} {ta : TE} {D : Ends} {tz : TS} {i : Nat} {l : Addr} {xs : List V} {x : V} (ha : Ev ta σ H (.ref l)) (hl : H l = some (.lst (xs ++ [x]))) (k : ∀ H1, Ex H H1 → tz D (σ.set i (some x)) (upd H1 l (.lst xs))) :
    tSeq (tAsg (tBM0 K "list" rPop ta) (gName i)) tz D σ H := ha H (Ex.refl H) _ fun H1 e1 => by
  have h1 := e1 _ _ hl
  refine ⟨.inl ⟨rfl, _, sq_of h1⟩, l, _, x, rfl, rfl, h1, by simp, ?_⟩
  rw [List.dropLast_concat]
  exact k H1 e1
theorem et_dnotin {σ : L2.St} {H : Hp} {td ty : TE} {d : Addr} {kvs : List (Key × V)} {k : Int} (hd : Ev td σ H (.ref d)) (hk : Ev ty σ H (.int k)) (h : H d = some (.dK kvs)) : EvT (tB (tDNotIn ty td)) σ H (!(valV kvs (Sum.inl k)).isSome) := fun H1 e Q q =>
  hk H1 e _ fun H2 e2 => hd H2 (e.trans e2) _ fun H3 e3 => ⟨d, _, rfl, DGet.k (k := Sum.inl k) (((e.trans e2).trans e3) _ _ h), _, rfl, q H3 (e2.trans e3)⟩
theorem et_din {σ : L2.St} {H : Hp} {td ty : TE} {d : Addr} {kvs : List (Key × V)} {k : Int} (hd : Ev td σ H (.ref d)) (hk : Ev ty σ H (.int k)) (h : H d = some (.dK kvs)) : EvT (tB (tDIn ty td)) σ H (valV kvs (Sum.inl k)).isSome := fun H1 e Q q =>
  hk H1 e _ fun H2 e2 => hd H2 (e.trans e2) _ fun H3 e3 => ⟨d, _, rfl, DGet.k (k := Sum.inl k) (((e.trans e2).trans e3) _ _ h), _, rfl, q H3 (e2.trans e3)⟩
/-- d[k] = v -/
theorem q_dput {σ : L2.St} {H : Hp} {td ty tv : TE} {D : Ends} {tz : TS} {d : Addr} {kvs : List (Key × V)} {k : Int} {v : V} (hv : Ev tv σ H v) (hd : Ev td σ H (.ref d)) (hk : Ev ty σ H (.int k)) (h : H d = some (.dK kvs)) (hz : kvs.length < 100000)
    (c : ∀ H1, Ex H H1 → tz D σ (upd H1 d (.dK (putK kvs (Sum.inl k) v)))) : tSeq (sDPut td ty tv) tz D σ H :=
  hv H (Ex.refl H) _ fun H1 e1 => hd H1 e1 _ fun H2 e2 => hk H2 (e1.trans e2) _ fun H3 e3 => ⟨d, _, rfl, DPut.k (k := Sum.inl k) (((e1.trans e2).trans e3) _ _ h) (sz_lt hz), c H3 ((e1.trans e2).trans e3)⟩
/-- xs.extend(ys) -/
theorem s_extend {K : PySem.W.Frag} {σ : L2.St} {H : Hp} {ta tb : TE} {D : Ends} {l b : Addr} {xs ys : List V} (ha : Ev ta σ H (.ref l)) (hb : Ev tb σ H (.ref b)) (hl : H l = some (.lst xs)) (hy : H b = some (.lst ys)) (hz : xs.length + ys.length ≤ 100000)
    (k : ∀ H1, Ex H H1 → D.nx σ (upd H1 l (.lst (xs ++ ys)))) : tDrop (tBM K "list" rExtend ta (tCons tb tNil)) D σ H :=
  ha H (Ex.refl H) _ fun H1 e1 => ⟨.inl ⟨rfl, _, sq_of (e1 _ _ hl)⟩, hb H1 e1 _ fun H2 e2 => ⟨l, b, xs, ys, rfl, rfl, (e1.trans e2) _ _ hl, (e1.trans e2) _ _ hy, sz_of hz, k H2 (e1.trans e2)⟩⟩
section
variable {P : Program} {w : World} {K : PySem.W.Frag} {mg : Str → Option Value} {base : Heap}
theorem ok_down {f : Addr} {fd : FuncData} (F : Fun K "_law_down" "_law_down" sDown f fd) : FnOk P w K mg base CX0 1 f fd ["_law_kids_here", "_law_kind"] (spDown K) := by
  refine F.ok scDown (fun vs H Q E h => ?_) (fun cdv A outer s H vs Q E hr h => ?_)
  · obtain ⟨p, rs, kk, k, rfl, _⟩ := h
    rfl
  obtain ⟨p, rs, kk, k, rfl, hK, hS, hk, hlt, q⟩ := h
  refine ⟨_, pss_cons (ps_par (i := 2) (j := 3) rfl scDown.nd rfl rfl (by decide) rfl rfl (pa_cons pe_dnewK (pa_cons (pe_lst (pa_cons (pv 1) pa_nil)) pa_nil)) rfl)
    (pss_cons (ps_while PassesOwn.never (pt_cmpR (op_neD (by have := hr.units; exact this)) (pv 3) (pe_lst pa_nil) (nomark _))
      (pss_cons (ps_set (i := 4) scDown.nd rfl (.inl rfl) (pe_bm0 PySem.F.plainAttrs_list PySem.F.slot_list_pop PySem.F.type_list_pop mt_pop (pv 3)))
      (pss_one (ps_if (pt_cmp (pc_dnotin (hu_of hr) (pv 4) (pv 2))) (pss_cons (ps_dput (hu_of hr) (pv 2) (pv 4) pe_bl rfl)
        (pss_one (ps_expr (pe_bm PySem.F.plainAttrs_list PySem.F.slot_list_extend PySem.F.type_list_extend mt_extend (pv 3) (pa_cons (pe_ix ix_list (pv 0) (pv 4) (fun _ _ => rfl)) pa_nil))))) pss_nil))))
    (pss_one (ps_ret (pv 2)))), ?_⟩
  have hn : kk.length ≤ 40 := hS.1
  let S4 (x2 x3 x4 : Option V) : L2.St := [some (.ref p), some (nV k), x2, x3, x4]
  -- the dict and the list
  intro d hd
  have e1 : Ex H (upd H d (.dK [])) := Ex.new hd
  refine ⟨nV k, rfl, by show 1 ≤ sizeLine; decide, fun lf hlf => ⟨.ref d, .ref lf, rfl, ?_⟩⟩
  have e2 : Ex H (upd (upd H d (.dK [])) lf (.lst [nV k])) := e1.trans (Ex.new hlf)
  have hlf0 : H lf = none := fresh_back e1 hlf
  have hne : d ≠ lf := ne_of_none (show upd H d (.dK []) d = some (.dK []) from upd_same) hlf
  have hd2 : upd (upd H d (.dK [])) lf (.lst [nV k]) d = some (.dK (dKs [])) := by
    rw [upd_ne hne, upd_same]
    rfl
  have hl2 : upd (upd H d (.dK [])) lf (.lst [nV k]) lf = some (.lst (nVs [k])) := upd_same
  show tSeq (tWhile _ _) _ _ (S4 (some (.ref d)) (some (.ref lf)) none) (upd (upd H d (.dK [])) lf (.lst [nV k]))
  generalize upd (upd H d (.dK [])) lf (.lst [nV k]) = H2 at e2 hd2 hl2 ⊢
  clear e1 hlf
  have row_lt : ∀ u c, c ∈ rowAt kk u → c < kk.length := fun u c h => by
    unfold rowAt at h
    rw [List.getD_eq_getElem?_getD] at h
    cases e : kk[u]? with
    | none =>
      rw [e] at h
      cases h
    | some ks =>
      rw [e] at h
      exact hlt ks (List.mem_of_getElem? e) c h
  let Inv (m : Nat) (σ' : L2.St) (H' : Hp) : Prop := ∃ (S left : List Nat) (x4 : Option V), σ' = S4 (some (.ref d)) (some (.ref lf)) x4 ∧ Ex H H' ∧ H' d = some (.dK (dKs S)) ∧ H' lf = some (.lst (nVs left)) ∧
    m = 41 * un S kk.length + left.length ∧ S.length + un S kk.length = kk.length ∧ S.Nodup ∧ (∀ x ∈ S, x < kk.length) ∧ (∀ x ∈ left, x < kk.length) ∧ (k ∈ S ∨ k ∈ left) ∧ (∀ u c, u ∈ S → c ∈ rowAt kk u → c ∈ S ∨ c ∈ left) ∧
    (∀ T : Nat → Prop, T k → (∀ u c, T u → c ∈ rowAt kk u → T c) → (∀ x ∈ S, T x) ∧ ∀ x ∈ left, T x) ∧ m ≤ 41 * 40 + 1
  refine q_while Inv (41 * un [] kk.length + 1) ⟨[], [k], none, rfl, e2, hd2, hl2, rfl, ?_, List.nodup_nil, ?_, ?_, .inr (List.mem_singleton.mpr rfl), ?_, ?_, ?_⟩ fun m σ' H' hI => ?_
  · rw [un_nil]
    exact Nat.zero_add _
  · exact fun x h => by cases h
  · exact fun x h => by rw [List.mem_singleton.mp h]; exact hk
  · exact fun u c h => by cases h
  · exact fun T h1 h2 => ⟨fun x h => (by cases h), fun x h => (by rw [List.mem_singleton.mp h]; exact h1)⟩
  · rw [un_nil]
    omega
  obtain ⟨S, left, x4, rfl, e3, hd3, hl3, hm, hun, hnd, hSl, hLl, hkin, hcl, hmin, hmb⟩ := hI
  refine ⟨!left.isEmpty, et_neNil (ev_var rfl) hl3, fun hb H3 e4 => ?_, fun hb H3 e4 => ?_⟩
  · have hne0 : left ≠ [] := fun z => by
      rw [z] at hb
      cases hb
    obtain ⟨init, x, rfl⟩ : ∃ init x, left = init ++ [x] := ⟨left.dropLast, left.getLast hne0, (List.dropLast_concat_getLast hne0).symm⟩
    have hx : x < kk.length := hLl x (by simp)
    have hlen : (init ++ [x]).length = init.length + 1 := by simp
    refine ⟨fun σ2 H2 => ∃ m', m' < m ∧ Inv m' σ2 H2, fun σ2 H2 h => h, ?_⟩
    have hl4 := e4 _ _ hl3
    have hd4 := e4 _ _ hd3
    have eS : nVs (init ++ [x]) = nVs init ++ [nV x] := by unfold nVs; rw [List.map_append]; rfl
    rw [eS] at hl4
    refine q_pop (ev_var rfl) hl4 fun H4 e5 => ?_
    have hd4 := e5 _ _ hd4
    have e5 : Ex H (upd H4 lf (.lst (nVs init))) := Ex.mut ((e3.trans e4).trans e5) hlf0
    have hl5 : upd H4 lf (.lst (nVs init)) lf = some (.lst (nVs init)) := upd_same
    have hd5 : upd H4 lf (.lst (nVs init)) d = some (.dK (dKs S)) := by
      rw [upd_ne hne]
      exact hd4
    generalize upd H4 lf (.lst (nVs init)) = H5 at e5 hl5 hd5 ⊢
    refine s_if (b := !(valV (dKs S) (Sum.inl (x : Int))).isSome) (et_dnotin (ev_var rfl) (ev_var rfl) hd5) (fun hb5 H6 e6 => ?_) fun hb5 H6 e6 => ?_
    rotate_left
    · have hxS : x ∈ S := by
        by_cases z : x ∈ S
        · exact z
        · rw [dKs_val, if_neg z] at hb5
          cases hb5
      replace e5 := e5.trans e6
      replace hd5 := e6 _ _ hd5
      replace hl5 := e6 _ _ hl5
      refine ⟨41 * un S kk.length + init.length, by omega, S, init, _, rfl, e5, hd5, hl5, rfl, hun, hnd, hSl, fun y hy => hLl y (List.mem_append_left _ hy), ?_, fun u c hu hc => ?_, fun T h1 h2 => ?_, by omega⟩
      · rcases hkin with h | h
        · exact .inl h
        · rcases List.mem_append.mp h with h | h
          · exact .inr h
          · rw [List.mem_singleton.mp h]
            exact .inl hxS
      · rcases hcl u c hu hc with h | h
        · exact .inl h
        · rcases List.mem_append.mp h with h | h
          · exact .inr h
          · rw [List.mem_singleton.mp h]
            exact .inl hxS
      · exact ⟨(hmin T h1 h2).1, fun y hy => (hmin T h1 h2).2 y (List.mem_append_left _ hy)⟩
    · have hxS : x ∉ S := fun z => by
        rw [dKs_val, if_pos z] at hb5
        cases hb5
      replace e5 := e5.trans e6
      replace hd5 := e6 _ _ hd5
      replace hl5 := e6 _ _ hl5
      have hz : (dKs S).length < 100000 := by
        unfold dKs
        rw [List.length_map]
        omega
      refine q_dput (v := .bl true) ev_c (ev_var rfl) (ev_var rfl) hd5 hz fun H7 e7 => ?_
      rw [dKs_put hxS]
      have e6 : Ex H (upd H7 d (.dK (dKs (S ++ [x])))) := Ex.mut (e5.trans e7) hd
      have hl6 : upd H7 d (.dK (dKs (S ++ [x]))) lf = some (.lst (nVs init)) := by
        rw [upd_ne (Ne.symm hne)]
        exact e7 _ _ hl5
      have hd6 : upd H7 d (.dK (dKs (S ++ [x]))) d = some (.dK (dKs (S ++ [x]))) := upd_same
      generalize upd H7 d (.dK (dKs (S ++ [x]))) = H6 at e6 hl6 hd6 ⊢
      have hrx : kk[x]? = some (rowAt kk x) := by
        unfold rowAt
        rw [List.getD_eq_getElem?_getD, List.getElem?_eq_getElem hx]
        rfl
      obtain ⟨r, hr, hrow⟩ := (hK.ex e6).get hrx
      have hrl : (rowAt kk x).length ≤ 40 := hS.2 _ (List.mem_of_getElem? hrx)
      have hua := un_add (S := S) hx hxS
      refine s_extend (ev_var rfl) (ev_row (hK.ex e6) hr (ev_var rfl) (ev_var rfl)) hl6 hrow ?_ fun H8 e8 => ?_
      · unfold nVs
        rw [List.length_map, List.length_map]
        omega
      replace e6 := e6.trans e8
      replace hd6 := e8 _ _ hd6
      rw [show nVs init ++ nVs (rowAt kk x) = nVs (init ++ rowAt kk x) by unfold nVs; rw [List.map_append]]
      refine ⟨41 * un (S ++ [x]) kk.length + (init ++ rowAt kk x).length, ?_, S ++ [x], init ++ rowAt kk x, _, rfl, Ex.mut e6 hlf0, ?_, upd_same, rfl, ?_, ?_, fun y hy => ?_, fun y hy => ?_, ?_, fun u c hu hc => ?_, fun T h1 h2 => ?_, ?_⟩
      · rw [List.length_append]
        omega
      · rw [upd_ne hne]
        exact hd6
      · rw [List.length_append, List.length_singleton]
        omega
      · rw [List.nodup_append]
        exact ⟨hnd, by simp, fun a ha b hb z => hxS (by rw [List.mem_singleton.mp hb] at z; exact z ▸ ha)⟩
      · rcases List.mem_append.mp hy with h | h
        · exact hSl y h
        · rw [List.mem_singleton.mp h]
          exact hx
      · rcases List.mem_append.mp hy with h | h
        · exact hLl y (List.mem_append_left _ h)
        · exact row_lt x y h
      · rcases hkin with h | h
        · exact .inl (List.mem_append_left _ h)
        · rcases List.mem_append.mp h with h | h
          · exact .inr (List.mem_append_left _ h)
          · rw [List.mem_singleton.mp h]
            exact .inl (by simp)
      · rcases List.mem_append.mp hu with h | h
        · rcases hcl u c h hc with h | h
          · exact .inl (List.mem_append_left _ h)
          · rcases List.mem_append.mp h with h | h
            · exact .inr (List.mem_append_left _ h)
            · rw [List.mem_singleton.mp h]
              exact .inl (by simp)
        · rw [List.mem_singleton.mp h] at hc
          exact .inr (List.mem_append_right _ hc)
      · have hT := hmin T h1 h2
        have hTx := hT.2 x (by simp)
        refine ⟨fun y hy => ?_, fun y hy => ?_⟩
        · rcases List.mem_append.mp hy with h | h
          · exact hT.1 y h
          · rw [List.mem_singleton.mp h]
            exact hTx
        · rcases List.mem_append.mp hy with h | h
          · exact hT.2 y (List.mem_append_left _ h)
          · exact h2 x y hTx h
      · rw [List.length_append]
        omega
  · have hne0 : left = [] := by simpa using hb
    subst hne0
    have hd4 := e4 _ _ hd3
    refine s_ret (v := .ref d) (ev_var rfl) fun H4 e5 => q d H4 S ⟨hnd, ?_, fun u c hu hc => ?_, fun T h1 h2 => (hmin T h1 h2).1, hSl⟩ hd ((e3.trans e4).trans e5) (e5 _ _ hd4)
    · rcases hkin with h | h
      · exact h
      · cases h
    · rcases hcl u c hu hc with h | h
      · exact h
      · cases h
end
end WR
set_option Elab.async false
set_option linter.all false
set_option maxRecDepth 100000
set_option maxHeartbeats 2000000
namespace WR
open PySem PySem.Spec PyProof.Rows L2 Evl

/-! ### comprehensions that choose among numbers -/
theorem given_nat {ks : List Nat} {g : Nat → Bool} : given ks.length (fun i => g (ks.getD i 0)) (fun i => nV (ks.getD i 0)) = nVs (ks.filter g) := by
  unfold given nVs
  have e : (List.range ks.length).map (fun i => ks.getD i 0) = ks := by
    refine List.ext_getElem? fun i => ?_
    rw [List.getElem?_map]
    by_cases h : i < ks.length
    · rw [List.getElem?_range h, List.getElem?_eq_getElem h, Option.map_some, List.getD_eq_getElem?_getD, List.getElem?_eq_getElem h]
      rfl
    · rw [List.getElem?_eq_none (by rw [List.length_range]; omega), List.getElem?_eq_none (by omega)]
      rfl
  have key : ∀ l : List Nat, (l.filter fun i => g (ks.getD i 0)).map (fun i => nV (ks.getD i 0)) = ((l.map fun i => ks.getD i 0).filter g).map nV := fun l => by
    induction l with
    | nil => rfl
    | cons x r ih =>
      rw [List.filter_cons, List.map_cons, List.filter_cons]
      cases h : g (ks.getD x 0) with
      | true =>
        rw [if_pos rfl, if_pos rfl, List.map_cons, List.map_cons, ih]
      | false =>
        rw [if_neg Bool.false_ne_true, if_neg Bool.false_ne_true, ih]
  rw [key, e]
section
variable {K : PySem.W.Frag} {σ : L2.St} {H H' : Hp} {ta tb te tl : TE} {t : TT}
theorem nVs_get {ks : List Nat} {i : Nat} {x : V} (h : (nVs ks)[i]? = some x) : ∃ k, ks[i]? = some k ∧ x = nV k ∧ ks.getD i 0 = k ∧ k ∈ ks := by
  unfold nVs at h
  rw [List.getElem?_map] at h
  obtain ⟨k, hk, rfl⟩ := Option.map_eq_some_iff.mp h
  exact ⟨k, hk, rfl, by rw [List.getD_eq_getElem?_getD, hk]; rfl, List.mem_of_getElem? hk⟩
theorem el_natLc {j : Nat} {vs : List Nat} {a : Addr} {ks : List Nat} (g : Nat → Bool) (h : Ev tl σ H (.ref a)) (hx : SqL K H a (nVs ks)) (hz : ks.length ≤ 40000) (hw : ∀ x, wipe ((wipe σ vs).set j (some x)) vs = wipe σ vs) (hj : j < (wipe σ vs).length)
    (ht : ∀ k H1, Ex H H1 → k ∈ ks → EvT t ((wipe σ vs).set j (some (nV k))) H1 (g k)) : EvL (tLc (iList K tl) (gName j) t (tVar j) vs) σ H (nVs (ks.filter g)) := by
  rw [← given_nat]
  have q := el_lcL (K := K) (xs := nVs ks) (σ := σ) (H := H) (t := t) (te := tVar j) (vs := vs) (j := j) (fun i => g (ks.getD i 0)) (fun i => nV (ks.getD i 0)) h hx (by unfold nVs; rw [List.length_map]; exact hz) hw (fun i x H1 e hi => by
    obtain ⟨k, _, rfl, h1, hm⟩ := nVs_get hi
    rw [h1]
    exact ht k H1 e hm) (fun i x H1 e hi _ => by
    obtain ⟨k, _, rfl, h1, hm⟩ := nVs_get hi
    rw [h1]
    exact ev_var (by rw [List.getElem?_set_self hj]))
  have e : (nVs ks).length = ks.length := by unfold nVs; rw [List.length_map]
  rw [e] at q
  exact q
theorem el_rngLc {ta : TA} {j n : Nat} {vs : List Nat} (g : Nat → Bool) (h : EvA ta σ H [.int (n : Int)]) (hn : n ≤ 40000) (hw : ∀ x, wipe ((wipe σ vs).set j (some x)) vs = wipe σ vs) (hj : j < (wipe σ vs).length)
    (ht : ∀ k H1, Ex H H1 → k < n → EvT t ((wipe σ vs).set j (some (nV k))) H1 (g k)) : EvL (tLc (iRng1 ta) (gName j) t (tVar j) vs) σ H (nVs ((List.range n).filter g)) := by
  have q := el_lcR1 (σ := σ) (H := H) (t := t) (te := tVar j) (vs := vs) (j := j) (n := (n : Int)) g nV h ⟨by omega, by omega⟩ hw (fun i H1 e hi => ht i H1 e (by omega)) (fun i H1 e hi _ => ev_var (by rw [List.getElem?_set_self hj]; rfl))
  rw [Int.toNat_natCast] at q
  exact q
/-- what a def hands back: a new list -/
theorem el_ups {E : XK} {tp tk : TE} {p : Addr} {rs : List Addr} {kk : List (List Nat)} {k : Nat} (hp : Ev tp σ H (.ref p)) (hk : Ev tk σ H (nV k)) (hK : KdAt H p rs kk) (hS : Sml kk) : EvL (tCall (spUps K) [] E (tCons tp (tCons tk tNil))) σ H (nVs (upsL kk k)) := fun H1 e Q q =>
  hp H1 e _ fun H2 e2 => hk H2 (e.trans e2) _ fun H3 e3 => ⟨p, rs, kk, k, rfl, hK.ex ((e.trans e2).trans e3), hS, fun l H4 hl e4 h4 => q l H4 (fresh_back (e2.trans e3) hl) ((e2.trans e3).trans e4) h4⟩
theorem ev_lenL {ks : List Nat} (h : EvL te σ H (nVs ks)) : Ev (tCB (rLenS K) (tCons te tNil)) σ H (nV ks.length) := ev_is (ev_lenN (K := K) h) (by unfold nVs nV; rw [List.length_map])
end

/-! ### rows and their numbers -/
theorem cnt_ups (kk : List (List Nat)) (k : Nat) : (upsL kk k).length = cnt (rowAt kk) k kk.length := by
  unfold upsL
  have key : ∀ n, ((List.range n).filter fun u => decide (k ∈ kk.getD u [])).length = cnt (rowAt kk) k n := fun n => by
    induction n with
    | zero => rfl
    | succ n ih =>
      rw [List.range_succ, List.filter_append, List.length_append, ih, List.filter_cons]
      show _ = cnt (rowAt kk) k n + (if k ∈ rowAt kk n then 1 else 0)
      by_cases z : k ∈ kk.getD n []
      · rw [decide_eq_true z, if_pos rfl, if_pos (show k ∈ rowAt kk n from z)]
        rfl
      · rw [decide_eq_false z, if_neg Bool.false_ne_true, if_neg (show ¬ k ∈ rowAt kk n from z)]
        rfl
  exact key _
theorem mem_ups {kk : List (List Nat)} {k u : Nat} : u ∈ upsL kk k ↔ u < kk.length ∧ k ∈ rowAt kk u := by
  unfold upsL
  rw [List.mem_filter, List.mem_range, decide_eq_true_eq]
  rfl
theorem rowAt_get {kk : List (List Nat)} {u : Nat} (h : u < kk.length) : kk[u]? = some (rowAt kk u) := by
  unfold rowAt
  rw [List.getD_eq_getElem?_getD, List.getElem?_eq_getElem h]
  rfl
theorem rowAt_set {kk : List (List Nat)} {u : Nat} {ks : List Nat} (h : u < kk.length) : rowAt (kk.set u ks) = setK (rowAt kk) u ks := by
  funext x
  show (kk.set u ks).getD x [] = if x = u then ks else kk.getD x []
  rw [List.getD_eq_getElem?_getD, List.getD_eq_getElem?_getD, List.getElem?_set]
  by_cases e : u = x
  · subst e
    rw [if_pos rfl, if_pos rfl, if_pos h]
    rfl
  · rw [if_neg e, if_neg (Ne.symm e)]
theorem rowAt_app {kk : List (List Nat)} {ks : List Nat} : rowAt (kk ++ [ks]) = setK (rowAt kk) kk.length ks := by
  funext x
  show (kk ++ [ks]).getD x [] = if x = kk.length then ks else kk.getD x []
  rw [List.getD_eq_getElem?_getD, List.getD_eq_getElem?_getD, List.getElem?_append]
  by_cases e : x = kk.length
  · subst e
    rw [if_neg (Nat.lt_irrefl _), if_pos rfl, Nat.sub_self]
    rfl
  · rw [if_neg e]
    by_cases h : x < kk.length
    · rw [if_pos h]
    · rw [if_neg h, List.getElem?_eq_none (show kk.length ≤ x by omega), List.getElem?_eq_none (by simp; omega)]

/-! ### the surroundings: B stands, but the deck in it; the rows are new -/
structure Bs (B H : Hp) (dk L : Addr) (ns : List Int) (N : Int) : Prop where
  ex : Ex (rem B dk) H
  deck : Dk H dk L ns N
  bdk : ∃ o, B dk = some o
  bL : ∃ o, B L = some o
structure Kds (B H : Hp) (p : Addr) (rs : List Addr) (kk : List (List Nat)) : Prop where
  kd : KdAt H p rs kk
  bp : B p = none
  br : ∀ r ∈ rs, B r = none
theorem Bs.more {B H H' : Hp} {dk L : Addr} {ns : List Int} {N : Int} (b : Bs B H dk L ns N) (e : Ex H H') : Bs B H' dk L ns N := ⟨b.ex.trans e, b.deck.ex e, b.bdk, b.bL⟩
theorem Kds.ex {B H H' : Hp} {p : Addr} {rs : List Addr} {kk : List (List Nat)} (k : Kds B H p rs kk) (e : Ex H H') : Kds B H' p rs kk := ⟨k.kd.ex e, k.bp, k.br⟩
theorem Bs.ne {B H : Hp} {dk L : Addr} {ns : List Int} {N : Int} (b : Bs B H dk L ns N) {r : Addr} (h : B r = none) : r ≠ dk := fun z => by
  obtain ⟨o, ho⟩ := b.bdk
  rw [z, ho] at h
  cases h
/-- a new thing in H is none of B's -/
theorem Bs.new {B H : Hp} {dk L : Addr} {ns : List Int} {N : Int} (b : Bs B H dk L ns N) {r : Addr} (h : H r = none) : B r = none := by
  cases e : B r with
  | none => rfl
  | some o =>
    have hne : r ≠ dk := fun z => by
      obtain ⟨_, _, _, d, _⟩ := b.deck
      rw [z, d.at_] at h
      cases h
    have q := b.ex r o (by rw [rem_ne hne]; exact e)
    rw [h] at q
    cases q
/-- a thing that is none of B's may change -/
theorem Bs.upd {B H : Hp} {dk L : Addr} {ns : List Int} {N : Int} {r : Addr} {o : HO} (b : Bs B H dk L ns N) (h : B r = none) : Bs B (upd H r o) dk L ns N := by
  have hne := b.ne h
  have hL : L ≠ r := fun z => by
    obtain ⟨o, ho⟩ := b.bL
    rw [z, h] at ho
    cases ho
  obtain ⟨x, y, n, d, hn⟩ := b.deck
  refine ⟨Ex.mut b.ex (by rw [rem_ne hne]; exact h), ⟨x, y, n, ⟨?_, ?_, d.a0, d.b0, d.n0, d.len⟩, hn⟩, b.bdk, b.bL⟩
  · rw [upd_ne (Ne.symm hne)]
    exact d.at_
  · rw [upd_ne hL]
    exact d.ls
theorem Bs.draw {B H H' : Hp} {dk L : Addr} {ns : List Int} {N M : Int} (b : Bs B H dk L ns N) (e : Ex (rem H dk) H') (d : Dk H' dk L ns M) : Bs B H' dk L ns M := ⟨rem_trans b.ex e, d, b.bdk, b.bL⟩
theorem Kds.draw {B H H' : Hp} {dk L : Addr} {ns : List Int} {N : Int} {p : Addr} {rs : List Addr} {kk : List (List Nat)} (k : Kds B H p rs kk) (b : Bs B H dk L ns N) (e : Ex (rem H dk) H') : Kds B H' p rs kk := by
  refine ⟨⟨e _ _ (by rw [rem_ne (b.ne k.bp)]; exact k.kd.at_), k.kd.len, k.kd.nd, k.kd.np, fun i r ks h1 h2 => ?_⟩, k.bp, k.br⟩
  exact e _ _ (by rw [rem_ne (b.ne (k.br r (List.mem_of_getElem? h1)))]; exact k.kd.row i r ks h1 h2)
/-- a row changes -/
theorem Kds.row {B H : Hp} {p r : Addr} {rs : List Addr} {kk : List (List Nat)} {u : Nat} {ks : List Nat} (k : Kds B H p rs kk) (hr : rs[u]? = some r) : Kds B (upd H r (.lst (nVs ks))) p rs (kk.set u ks) := by
  have hm := List.mem_of_getElem? hr
  have hpr : p ≠ r := fun z => k.kd.np (z ▸ hm)
  refine ⟨⟨by rw [upd_ne hpr]; exact k.kd.at_, by rw [List.length_set]; exact k.kd.len, k.kd.nd, k.kd.np, fun i r' ks' h1 h2 => ?_⟩, k.bp, k.br⟩
  by_cases e : i = u
  · subst e
    rw [hr] at h1
    cases h1
    have hl := (List.getElem?_eq_some_iff.mp h2).1
    rw [List.length_set] at hl
    rw [List.getElem?_set_self hl] at h2
    cases h2
    exact upd_same
  · rw [List.getElem?_set_ne (Ne.symm e)] at h2
    have hne : r' ≠ r := fun z => by
      subst z
      have h3 := List.getElem?_eq_some_iff.mp h1
      have h4 := List.getElem?_eq_some_iff.mp hr
      obtain ⟨a1, a2⟩ := h3
      obtain ⟨b1, b2⟩ := h4
      exact e ((List.getElem_inj k.kd.nd).mp (a2.trans b2.symm))
    rw [upd_ne hne]
    exact k.kd.row i r' ks' h1 h2
/-- a row more: r new -/
theorem Kds.app {B H : Hp} {p r : Addr} {rs : List Addr} {kk : List (List Nat)} {ks : List Nat} (k : Kds B H p rs kk) (hr : H r = some (.lst (nVs ks))) (hnew : r ∉ p :: rs) (hb : B r = none) : Kds B (upd H p (.lst ((rs ++ [r]).map V.ref))) p (rs ++ [r]) (kk ++ [ks]) := by
  rw [List.mem_cons, not_or] at hnew
  refine ⟨⟨upd_same, by rw [List.length_append, List.length_append, k.kd.len]; rfl, ?_, ?_, fun i r' ks' h1 h2 => ?_⟩, k.bp, fun x hx => ?_⟩
  · rw [List.nodup_append]
    exact ⟨k.kd.nd, by simp, fun a ha b hb' z => hnew.2 (by rw [List.mem_singleton.mp hb'] at z; exact z ▸ ha)⟩
  · intro z
    rcases List.mem_append.mp z with z | z
    · exact k.kd.np z
    · exact hnew.1 (List.mem_singleton.mp z).symm
  · rw [List.getElem?_append] at h1 h2
    rw [k.kd.len] at h1
    by_cases hi : i < kk.length
    · rw [if_pos hi] at h1 h2
      have hne : r' ≠ p := fun z => k.kd.np (z ▸ List.mem_of_getElem? h1)
      rw [upd_ne hne]
      exact k.kd.row i r' ks' h1 h2
    · rw [if_neg hi] at h1 h2
      have e0 : i - kk.length = 0 := by
        have := (List.getElem?_eq_some_iff.mp h1).1
        simp at this
        omega
      rw [e0] at h1 h2
      cases h1
      cases h2
      rw [upd_ne hnew.1]
      exact hr
  · rcases List.mem_append.mp hx with h | h
    · exact k.br x h
    · rw [List.mem_singleton.mp h]
      exact hb

theorem KdAt.fresh {H : Hp} {p x : Addr} {rs : List Addr} {kk : List (List Nat)} (k : KdAt H p rs kk) (h : H x = none) : x ∉ p :: rs := fun z => by
  rcases List.mem_cons.mp z with z | z
  · rw [z, k.at_] at h
    cases h
  · obtain ⟨i, hi, ei⟩ := List.mem_iff_getElem.mp z
    have := k.row i x _ (by rw [List.getElem?_eq_getElem hi, ei]) (rowAt_get (by rw [← k.len]; exact hi))
    rw [this] at h
    cases h
theorem Bs.wk {B H : Hp} {dk L : Addr} {ns : List Int} {N M : Int} (b : Bs B H dk L ns N) (h : N ≤ M) : Bs B H dk L ns M := by
  obtain ⟨x, y, n, d, hn⟩ := b.deck
  exact ⟨b.ex, ⟨x, y, n, d, Int.le_trans hn h⟩, b.bdk, b.bL⟩
theorem nodup_len : ∀ (n : Nat) (ks : List Nat), ks.Nodup → (∀ c ∈ ks, c < n) → ks.length ≤ n
  | 0, ks, _, h => by
    cases ks with
    | nil => exact Nat.le_refl _
    | cons x r => exact absurd (h x (List.mem_cons_self ..)) (by omega)
  | n + 1, ks, hd, h => by
    by_cases e : n ∈ ks
    · have q := nodup_len n (ks.erase n) (hd.erase n) fun c hc => by
        have q1 := (List.Nodup.mem_erase_iff hd).mp hc
        have := h c q1.2
        have := q1.1
        omega
      rw [List.length_erase_of_mem e] at q
      omega
    · have q := nodup_len n ks hd fun c hc => by
        have := h c hc
        have : c ≠ n := fun z => e (z ▸ hc)
        omega
      omega
theorem sml_of {L x : Nat} {kk : List (List Nat)} (g : GenX L kk.length (rowAt kk) x) (h : kk.length ≤ 40) : Sml kk := by
  refine ⟨h, fun ks hks => ?_⟩
  obtain ⟨i, hi, e⟩ := List.mem_iff_getElem.mp hks
  have q : rowAt kk i = ks := by
    unfold rowAt
    rw [List.getD_eq_getElem?_getD, List.getElem?_eq_getElem hi, e]
    rfl
  have := nodup_len kk.length ks (q ▸ g.nd i) fun c hc => g.lt i c (q ▸ hc)
  omega
/-- x is k or beneath it -/
def Rch (kk : List (List Nat)) (k x : Nat) : Prop := ∀ T : Nat → Prop, T k → (∀ u c, T u → c ∈ rowAt kk u → T c) → T x
theorem rch_self {kk : List (List Nat)} {k : Nat} : Rch kk k k := fun _ h _ => h
theorem rch_shut {kk : List (List Nat)} {k : Nat} : Shut (rowAt kk) (Rch kk k) := fun u c h hc T h1 h2 => h2 u c (h T h1 h2) hc
theorem beneath_iff {kk : List (List Nat)} {k x : Nat} {S : List Nat} (h : Beneath kk k S) : x ∈ S ↔ Rch kk k x :=
  ⟨fun hx T h1 h2 => h.least T h1 h2 x hx, fun hx => hx (· ∈ S) h.self h.shut⟩
theorem set_rep {a b : Nat} : ∀ {ks : List Nat} {j : Nat}, ks.Nodup → ks[j]? = some a → ks.set j b = rep a b ks
  | x :: r, 0, hd, h => by
    have e : x = a := by simpa using h
    subst e
    rw [List.nodup_cons] at hd
    show b :: r = (if x = x then b else x) :: rep x b r
    rw [if_pos rfl]
    have : rep x b r = r := by
      unfold rep
      refine (List.map_congr_left fun y hy => ?_).trans (List.map_id r)
      rw [if_neg (fun (w : y = x) => hd.1 (w ▸ hy))]
      rfl
    rw [this]
  | x :: r, j + 1, hd, h => by
    rw [List.nodup_cons] at hd
    have h : r[j]? = some a := by simpa using h
    have hx : x ≠ a := fun z => hd.1 (z ▸ List.mem_of_getElem? h)
    show x :: r.set j b = (if x = a then b else x) :: rep a b r
    rw [if_neg hx, set_rep hd.2 h]
section
variable {K : PySem.W.Frag} {σ : L2.St} {H H' : Hp} {ta tb te tl : TE} {t : TT} {D : Ends} {tz : TS}
theorem et_eqNilL {ks : List Nat} (h : EvL ta σ H (nVs ks)) : EvT (tTest (tOp (rEqD K) ta (tLst tNil))) σ H ks.isEmpty :=
  et_test (ev_opLL (ys := []) h (el_lst ea_nil (by simp)) fun p q H1 h1 h2 e1 H2 e2 Q q2 => by
    refine ⟨.list (natDs ks), .list [], .lst (sq_of (e2 _ _ h1)) (dpAll_nat ks), .lst (sq_of (e2 _ _ h2)) .nil, shaped_nats ks, shaped_ints [], ?_⟩
    rw [eqv_nats_nil]
    exact q2 H2 (Ex.refl H2))
/-- the place of an item that is there -/
theorem ev_index {l : Addr} {ks : List Nat} {j a : Nat} (ha : Ev ta σ H (.ref l)) (hb : Ev tb σ H (nV a)) (hl : H l = some (.lst (nVs ks))) (hj : ks[j]? = some a) (hd : ks.Nodup) :
    Ev (tBM K "list" (rIndex K) ta (tCons tb tNil)) σ H (nV j) := fun H1 e Q q =>
  ha H1 e _ fun H2 e2 => ⟨.inl ⟨rfl, _, sq_of ((e.trans e2) _ _ hl)⟩, hb H2 (e.trans e2) _ fun H3 e3 => by
    refine ⟨l, nVs ks, nV a, j, nV a, rfl, rfl, sq_of (((e.trans e2).trans e3) _ _ hl), rfl, flat_nVs ks, nVs_at hj, by show ((a : Int) == (a : Int)) = true; simp, fun m z hm hz => ?_, q H3 (e2.trans e3)⟩
    obtain ⟨k, hk, rfl, _, _⟩ := nVs_get hz
    show ((k : Int) == (a : Int)) = false
    refine beq_eq_false_iff_ne.mpr fun z => ?_
    have z : k = a := by omega
    subst z
    have h3 := List.getElem?_eq_some_iff.mp hk
    have h4 := List.getElem?_eq_some_iff.mp hj
    obtain ⟨a1, a2⟩ := h3
    obtain ⟨b1, b2⟩ := h4
    have := (List.getElem_inj hd).mp (a2.trans b2.symm)
    omega⟩
/-- a kind in what is beneath -/
theorem et_down {E : XK} {tp tk tx : TE} {p : Addr} {rs : List Addr} {kk : List (List Nat)} {k x : Nat} (hp : Ev tp σ H (.ref p)) (hk : Ev tk σ H (nV k)) (hx : Ev tx σ H (nV x)) (hK : KdAt H p rs kk) (hS : Sml kk) (hkn : k < kk.length) (hlt : ∀ ks ∈ kk, ∀ c ∈ ks, c < kk.length) :
    EvT (tB (tDIn tx (tCall (spDown K) [] E (tCons tp (tCons tk tNil))))) σ H (@decide (Rch kk k x) (Classical.propDecidable _)) := fun H1 e Q q =>
  hx H1 e _ fun H2 e2 => hp H2 (e.trans e2) _ fun H3 e3 => hk H3 ((e.trans e2).trans e3) _ fun H4 e4 => by
    have e14 := (e2.trans e3).trans e4
    refine ⟨p, rs, kk, k, rfl, hK.ex (e.trans e14), hS, hkn, hlt, fun d H5 S hS5 hd e5 h5 => ⟨d, _, rfl, DGet.k (k := Sum.inl (x : Int)) h5, _, rfl, ?_⟩⟩
    have eb : (valV (dKs S) (Sum.inl (x : Int))).isSome = @decide (Rch kk k x) (Classical.propDecidable _) := by
      rw [dKs_val]
      by_cases z : x ∈ S
      · rw [if_pos z]
        exact (@decide_eq_true _ (Classical.propDecidable _) ((beneath_iff hS5).mp z)).symm
      · rw [if_neg z]
        exact (@decide_eq_false _ (Classical.propDecidable _) (fun y => z ((beneath_iff hS5).mpr y))).symm
    rw [eb]
    exact q H5 (e14.trans e5)
/-- three draws at once -/
theorem q_three {dk li p L : Addr} {ns : List Int} {N : Int} {xs : List V} {ks : List Nat} {E E' E'' : XK} {i j l : Nat} (h0 : σ[0]? = some (some (.ref dk))) (h1 : σ[1]? = some (some (.ref p))) (h3 : σ[3]? = some (some (.ref li))) (hD : Dk H dk L ns N) (hN : N ≤ 999999990)
    (hp : H p = some (.lst xs)) (hx1 : 1 ≤ xs.length) (hx2 : xs.length ≤ 1000) (hli : H li = some (.lst (nVs ks))) (hk1 : ks ≠ []) (hk2 : ks.length ≤ 1000) (hne : li ≠ dk)
    (k : ∀ low c way H1, low < xs.length → c ∈ ks → way < 4 → Ex (rem H dk) H1 → Dk H1 dk L ns (N + 3) → tz D (((σ.set i (some (nV low))).set j (some (nV c))).set l (some (nV way))) H1) :
    tSeq (tAsg (tTup (tCons (tCall spDraw [] E (tCons (tVar 0) (tCons (tCB (fun xs H Q => ∃ p ys, xs = [.ref p] ∧ (SqL K H p ys ∨ SqT K H p ys) ∧ Q (.int ys.length) H) (tCons (tVar 1) tNil)) tNil))) (tCons (tCall (spOne K) [] E' (tCons (tVar 0) (tCons (tVar 3) tNil))) (tCons (tCall spDraw [] E'' (tCons (tVar 0) (tCons (tC (.int 4)) tNil))) tNil))))
      (gTup K 3 (gCons (gName i) (gCons (gName j) (gCons (gName l) gNil))))) tz D σ H := by
  refine ⟨.ref dk, h0, .ref p, h1, p, xs, rfl, .inl (sq_of hp), dk, L, ns, _, N, rfl, hD, by omega, by omega, by omega, fun r1 H1 a1 b1 e1 d1 => ?_⟩
  have hpos : 1 ≤ ks.length := by
    cases ks with
    | nil => exact absurd rfl hk1
    | cons _ _ => simp
  refine ⟨.ref dk, h0, .ref li, h3, dk, L, ns, N + 1, li, nVs ks, rfl, d1, by omega, e1 _ _ (by rw [rem_ne hne]; exact hli), hne, by unfold nVs; rw [List.length_map]; exact hpos, by unfold nVs; rw [List.length_map]; omega, fun x H2 hx e2 d2 => ?_⟩
  refine ⟨.ref dk, h0, dk, L, ns, 4, N + 1 + 1, rfl, d2, by omega, by decide, by decide, fun r3 H3 a3 b3 e3 d3 => ?_⟩
  refine ⟨by show 3 ≤ sizeLine; decide, fun T hT => ?_⟩
  obtain ⟨c, hc, rfl⟩ := List.mem_map.mp hx
  refine ⟨T, _, rfl, st_of upd_same, rfl, _, _, rfl, _, _, rfl, _, _, rfl, rfl, ?_⟩
  have q := k r1.toNat c r3.toNat (upd H3 T (.tup [.int r1, nV c, .int r3])) (by omega) hc (by omega) ((rem_trans (rem_trans e1 e2) e3).trans (Ex.new hT)) (by
    rw [show N + 3 = N + 1 + 1 + 1 by omega]
    exact d3.ex (Ex.new hT))
  have z1 : nV r1.toNat = .int r1 := by unfold nV; rw [Int.toNat_of_nonneg a1]
  have z3 : nV r3.toNat = .int r3 := by unfold nV; rw [Int.toNat_of_nonneg a3]
  rw [z1, z3] at q
  exact q
/-- x = one(deck, items) -/
theorem q_one {dk li L : Addr} {ns : List Int} {N : Int} {ks : List Nat} {E : XK} {i : Nat} {tp tl : TE} (h0 : Ev tp σ H (.ref dk)) (h1 : Ev tl σ H (.ref li)) (hD : Dk H dk L ns N) (hN : N ≤ 999999990) (hli : H li = some (.lst (nVs ks))) (hk1 : ks ≠ []) (hk2 : ks.length ≤ 1000) (hne : li ≠ dk)
    (k : ∀ c H1, c ∈ ks → Ex (rem H dk) H1 → Dk H1 dk L ns (N + 1) → tz D (σ.set i (some (nV c))) H1) : tSeq (tAsg (tCall (spOne K) [] E (tCons tp (tCons tl tNil))) (gName i)) tz D σ H :=
  h0 H (Ex.refl H) _ fun H1 e1 => h1 H1 e1 _ fun H2 e2 => by
    have hpos : 1 ≤ ks.length := by
      cases ks with
      | nil => exact absurd rfl hk1
      | cons _ _ => simp
    refine ⟨dk, L, ns, N, li, nVs ks, rfl, hD.ex (e1.trans e2), by omega, (e1.trans e2) _ _ hli, hne, by unfold nVs; rw [List.length_map]; exact hpos, by unfold nVs; rw [List.length_map]; omega, fun x H3 hx e3 d3 => ?_⟩
    obtain ⟨c, hc, rfl⟩ := List.mem_map.mp hx
    exact k c H3 hc ((rem_mono (e1.trans e2)).trans e3) d3
end
end WR
set_option Elab.async false
set_option linter.all false
set_option maxRecDepth 100000
set_option maxHeartbeats 2000000
namespace WR
open PySem PySem.Spec PyProof.Rows L2 Evl

def spMix (K : PySem.W.Frag) : Sp := fun vs H Q _ => ∃ dk p B L ns N rs kk Lv, vs = [.ref dk, .ref p] ∧ Bs B H dk L ns N ∧ N ≤ 900000000 ∧ Kds B H p rs kk ∧ Gen Lv kk.length (rowAt kk) ∧ Lv ≤ 8 ∧ kk.length ≤ Lv + 18 ∧
  ∀ H' rs' kk', Bs B H' dk L ns (N + 4) → Kds B H' p rs' kk' → Gen Lv kk'.length (rowAt kk') → kk'.length ≤ kk.length + 2 → Q .non H'
abbrev nMix : List Str := ["_law_deck_here", "_law_kids_here", "_law_plain", "_law_inner", "_law_low", "_law_high", "_law_way_here", "_law_ups_here", "_law_spots", "_law_one_here", "_law_over", "_law_kind"]
theorem scMix : FnScope nMix ["_law_deck_here", "_law_kids_here"] (defScope sLMix) := ⟨rfl, rfl, rfl, by decide +kernel, rfl, by decide +kernel, by decide +kernel⟩
section
variable {P : Program} {w : World} {K : PySem.W.Frag} {mg : Str → Option Value} {base : Heap}
theorem ok_mix {f fW fO fU fD : Addr} {fd fdW fdO fdU fdD : FuncData} (F : Fun K "_law_mix" "_law_mix" sLMix f fd)
    (FW : Fun K "_law_draw" "_law_draw" sDraw fW fdW) (bW : Binds K fdW ["_law_deck_here", "_law_many"] []) (gW : mg "_law_draw" = some (.ref fW))
    (FO : Fun K "_law_one" "_law_one" sOne fO fdO) (bO : Binds K fdO ["_law_deck_here", "_law_items"] []) (gO : mg "_law_one" = some (.ref fO))
    (FU : Fun K "_law_ups" "_law_ups" sUps fU fdU) (bU : Binds K fdU ["_law_kids_here", "_law_kind"] []) (gU : mg "_law_ups" = some (.ref fU))
    (FD : Fun K "_law_down" "_law_down" sDown fD fdD) (bD : Binds K fdD ["_law_kids_here", "_law_kind"] []) (gD : mg "_law_down" = some (.ref fD))
    (m1 : mg "range" = none) (m3 : mg "len" = none)
    (GW : FnOk P w K mg base CX0 1 fW fdW ["_law_deck_here", "_law_many"] spDraw)
    (GO : FnOk P w K mg base CX0 2 fO fdO ["_law_deck_here", "_law_items"] (spOne K))
    (GU : FnOk P w K mg base CX0 1 fU fdU ["_law_kids_here", "_law_kind"] (spUps K))
    (GD : FnOk P w K mg base CX0 1 fD fdD ["_law_kids_here", "_law_kind"] (spDown K)) :
    FnOk P w K mg base CX0 3 f fd ["_law_deck_here", "_law_kids_here"] (spMix K) := by
  refine F.ok scMix (fun vs H Q E h => ?_) (fun cdv A outer s H vs Q E hr h => ?_)
  · obtain ⟨dk, p, B, L, ns, N, rs, kk, Lv, rfl, _⟩ := h
    rfl
  obtain ⟨dk, p, B, L, ns, N, rs, kk, Lv, rfl, hB, hN, hK, hG, hLv, hn, q⟩ := h
  have r1 := hr.mono (show 1 ≤ 2 by decide)
  have hu := hr.units
  apply Exists.intro
  apply And.intro
  case left =>
    refine' pss_cons (ps_set (i := 2) scMix.nd rfl (.inr rfl) (pe_lc (own := [("_law_kind", 11)]) (g := gName 11) rfl scMix.nd
      (pi_range1 (by rfl) m1 (pa_cons (pe_callB call_len_seq (by rfl) m3 PySem.boot_len (pa_cons (pv 1) pa_nil)) pa_nil)) (blkOk_by (N := nMix) (sc := defScope sLMix) (by decide +kernel))
      (fun _ _ _ _ _ => pg_name (i := 11) scMix.nd rfl (Or.inl rfl)) (fun _ _ _ _ _ => pts_one (pt_cmpR op_lt (pe_callB (r := rLenS K) call_len_seq (by rfl) m3 PySem.boot_len (pa_cons (pe_call GU r1 (by rfl) gU FU.kp bU .nil pass0 (pa_cons (pv 1) (pa_cons (pv 11) pa_nil))) pa_nil)) pe_int (nomark _))) (fun _ _ _ _ _ => pv 11))) ?r0
    case' r0 => skip
    refine' pss_cons (ps_setLc (i := 3) (own := [("_law_kind", 11)]) (g := gName 11) rfl scMix.nd rfl rfl (sw_true rfl rfl rfl (by decide +kernel))
      (pi_list (pv 2)) (blkOk_by (N := nMix) (sc := defScope sLMix) (by decide +kernel))
      (fun _ _ _ _ _ => pg_name (i := 11) scMix.nd rfl (Or.inl rfl)) (fun _ _ _ _ _ => pts_one (pt_cmpR (r := rNeD K) (op_neD hu) (pe_ix (r := rIxL K) ix_list (pv 1) (pv 11) (fun _ _ => rfl)) (pe_lst pa_nil) (nomark _))) (fun _ _ _ _ _ => pv 11)) ?r1
    case' r1 => skip
    refine' pss_cons (ps_if (pt_cmpR (op_eqD hu) (pv 3) (pe_lst pa_nil) (nomark _)) (pss_one ps_retN) pss_nil) ?r2
    case' r2 => skip
    refine' pss_cons (ps_asg (pe_tup (pa_cons (pe_call GW r1 (by rfl) gW FW.kp bW .nil pass0 (pa_cons (pv 0) (pa_cons (pe_callB call_len_seq (by rfl) m3 PySem.boot_len (pa_cons (pv 1) pa_nil)) pa_nil)))
        (pa_cons (pe_call GO hr (by rfl) gO FO.kp bO .nil pass0 (pa_cons (pv 0) (pa_cons (pv 3) pa_nil)))
        (pa_cons (pe_call GW r1 (by rfl) gW FW.kp bW .nil pass0 (pa_cons (pv 0) (pa_cons pe_int pa_nil))) pa_nil))))
      (pg_tup rfl (pgs_cons (pg_name (i := 4) scMix.nd rfl (.inr rfl)) (pgs_cons (pg_name (i := 5) scMix.nd rfl (.inl rfl)) (pgs_cons (pg_name (i := 6) scMix.nd rfl (.inl rfl)) pgs_nil))))) ?r3
    case' r3 => skip
    refine' pss_cons (ps_set (i := 7) scMix.nd rfl (.inl rfl) (pe_call GU r1 (by rfl) gU FU.kp bU .nil pass0 (pa_cons (pv 1) (pa_cons (pv 4) pa_nil)))) ?r4
    case' r4 => skip
    refine' pss_cons (ps_if (pw_or (pt_cmpR (op_eqD hu) (pv 7) (pe_lst pa_nil) (nomark _)) (pw_or (pt_cmp (pc_din (hu_of hr) (pv 5) (pe_call GD r1 (by rfl) gD FD.kp bD .nil pass0 (pa_cons (pv 1) (pa_cons (pv 4) pa_nil)))))
        (pw_or1 (pw_and (pt_cmpR op_in_seq (pv 5) (pv 7) rfl) (pw_and1 (pw_or (pt_cmpR op_lt (pv 6) pe_int (nomark _)) (pw_or1 (pt_cmpR op_gt (pe_callB call_len_seq (by rfl) m3 PySem.boot_len (pa_cons (pv 7) pa_nil)) pe_int (nomark _)))).pt)).pt))).pt (pss_one ps_retN) pss_nil) ?r5
    case' r5 => skip
    refine' pss_cons (ps_if (pt_cmpR op_gt (pe_callB call_len_seq (by rfl) m3 PySem.boot_len (pa_cons (pv 7) pa_nil)) pe_int (nomark _))
      (pss_cons (ps_expr (pe_bm PySem.F.plainAttrs_list PySem.F.slot_list_append PySem.F.type_list_append mt_append (pe_ix ix_list (pv 1) (pv 5) (fun _ _ => rfl)) (pa_cons (pv 4) pa_nil))) (pss_one ps_retN)) pss_nil) ?r6
    case' r6 => skip
    refine' pss_cons (ps_if (pt_cmpR (op_eqD hu) (pe_lc (own := [("_law_one_here", 9)]) (g := gName 9) rfl scMix.nd (pi_list (pe_ix ix_list (pv 1) (pe_ix ix_list (pv 7) pe_int (fun _ _ => rfl)) (fun _ _ => rfl))) (blkOk_by (N := nMix) (sc := defScope sLMix) (by decide +kernel))
        (fun _ _ _ _ _ => pg_name (i := 9) scMix.nd rfl (Or.inl rfl)) (fun _ _ _ _ _ => pts_one (pw_and (pt_cmpR op_ne (pv 9) (pv 4) (nomark _)) (pw_and1 (pt_cmpR (r := rIn K false) op_in_seq (pv 9) (pv 2) rfl))).pt) (fun _ _ _ _ _ => pv 9)) (pe_lst pa_nil) (nomark _)) (pss_one ps_retN) pss_nil) ?r7
    case' r7 => skip
    refine' pss_cons (ps_expr (pe_bm PySem.F.plainAttrs_list PySem.F.slot_list_append PySem.F.type_list_append mt_append (pv 1) (pa_cons (pe_lst (pa_cons (pv 4) pa_nil)) pa_nil))) ?r8
    case' r8 => skip
    refine' pss_cons (ps_asg (pe_op op_sub (pe_callB call_len_seq (by rfl) m3 PySem.boot_len (pa_cons (pv 1) pa_nil)) pe_int)
      (pg_sub (pe_ix ix_list (pv 1) (pe_ix ix_list (pv 7) pe_int (fun _ _ => rfl)) (fun _ _ => rfl)) (pe_bm PySem.F.plainAttrs_list PySem.F.slot_list_index PySem.F.type_list_index mt_index (pe_ix ix_list (pv 1) (pe_ix ix_list (pv 7) pe_int (fun _ _ => rfl)) (fun _ _ => rfl)) (pa_cons (pv 4) pa_nil)) set_list)) ?r9
    case' r9 => skip
    refine' pss_cons (ps_setLc (i := 8) (own := [("_law_one_here", 9)]) (g := gName 9) rfl scMix.nd rfl rfl (sw_true rfl rfl rfl (by decide +kernel)) (pi_list (pe_ix ix_list (pv 1) (pv 5) (fun _ _ => rfl))) (blkOk_by (N := nMix) (sc := defScope sLMix) (by decide +kernel))
        (fun _ _ _ _ _ => pg_name (i := 9) scMix.nd rfl (Or.inl rfl)) (fun _ _ _ _ _ => pts_one (pt_cmpR (r := rIn K false) op_in_seq (pv 9) (pv 2) rfl)) (fun _ _ _ _ _ => pv 9)) ?r10
    case' r10 => skip
    refine' pss_cons (ps_if (pw_and (pt_cmpR op_eq (pv 6) pe_int (nomark _)) (pw_and1 (pt_cmpR (op_eqD hu) (pe_call GU r1 (by rfl) gU FU.kp bU .nil pass0 (pa_cons (pv 1) (pa_cons (pv 5) pa_nil))) (pe_lst pa_nil) (nomark _)))).pt
      (pss_one (ps_set (i := 8) scMix.nd rfl (.inl rfl) (pe_lst (pa_cons (pv 5) pa_nil))))
      (pss_one (ps_if (pt_cmpR op_lt (pv 6) pe_int (nomark _)) (pss_cons (ps_expr (pe_bm PySem.F.plainAttrs_list PySem.F.slot_list_append PySem.F.type_list_append mt_append (pe_ix ix_list (pv 1) (pv 5) (fun _ _ => rfl)) (pa_cons (pe_op op_sub (pe_callB call_len_seq (by rfl) m3 PySem.boot_len (pa_cons (pv 1) pa_nil)) pe_int) pa_nil))) (pss_one ps_retN)) pss_nil))) ?r11
    case' r11 => skip
    refine' pss_cons (ps_set (i := 9) scMix.nd rfl (.inl rfl) (pe_call GO hr (by rfl) gO FO.kp bO .nil pass0 (pa_cons (pv 0) (pa_cons (pv 8) pa_nil)))) ?r12
    case' r12 => skip
    refine' pss_cons (ps_set (i := 10) scMix.nd rfl (.inl rfl) (pe_call GU r1 (by rfl) gU FU.kp bU .nil pass0 (pa_cons (pv 1) (pa_cons (pv 9) pa_nil)))) ?r13
    case' r13 => skip
    refine' pss_cons (ps_expr (pe_bm PySem.F.plainAttrs_list PySem.F.slot_list_append PySem.F.type_list_append mt_append (pv 1) (pa_cons (pe_lst (pa_cons (pv 9) (pa_cons (pe_op op_sub (pe_callB call_len_seq (by rfl) m3 PySem.boot_len (pa_cons (pv 1) pa_nil)) pe_int) pa_nil))) pa_nil))) ?r14
    case' r14 => skip
    exact pss_one (ps_if (pt_cmpR (op_neD hu) (pv 10) (pe_lst pa_nil) (nomark _)) (pss_one (ps_asg (pe_op op_sub (pe_callB call_len_seq (by rfl) m3 PySem.boot_len (pa_cons (pv 1) pa_nil)) pe_int)
      (pg_sub (pe_ix ix_list (pv 1) (pe_ix ix_list (pv 10) pe_int (fun _ _ => rfl)) (fun _ _ => rfl)) (pe_bm PySem.F.plainAttrs_list PySem.F.slot_list_index PySem.F.type_list_index mt_index (pe_ix ix_list (pv 1) (pe_ix ix_list (pv 10) pe_int (fun _ _ => rfl)) (fun _ _ => rfl)) (pa_cons (pv 9) pa_nil)) set_list))) pss_nil)
  case right =>
    obtain ⟨Kf, eKf⟩ : ∃ Kf, Kf = rowAt kk := ⟨_, rfl⟩
    have hSm : Sml kk := sml_of hG (by omega)
    have hlt : ∀ ks ∈ kk, ∀ c ∈ ks, c < kk.length := fun ks hks c hc => by
      obtain ⟨i, hi, e⟩ := List.mem_iff_getElem.mp hks
      refine hG.lt i c ?_
      unfold rowAt
      rw [List.getD_eq_getElem?_getD, List.getElem?_eq_getElem hi, e]
      exact hc
    have hn1 : 1 ≤ kk.length := Nat.le_trans hG.l1 hG.ln
    let S (x2 x3 x4 x5 x6 x7 x8 x9 x10 : Option V) : L2.St := [some (.ref dk), some (.ref p), x2, x3, x4, x5, x6, x7, x8, x9, x10, none]
    have done : ∀ H', Ex (rem B dk) H' → Bs B H' dk L ns (N + 4) → ∀ rs, Kds B H' p rs kk → Q .non H' := fun H' _ b rs k => q H' rs kk b k hG (by omega)
    -- the plain kinds
    let g0 : Nat → Bool := fun k => decide (((upsL kk k).length : Int) < 2)
    show tSeq (tAsg _ _) _ _ (S none none none none none none none none none) H
    refine Evl.q_asgL (xs := nVs ((List.range kk.length).filter g0)) (el_rngLc (n := kk.length) g0 (ea_cons (ev_is (ev_len (K := K) (ev_var rfl) (sq_of hK.kd.at_)) (by rw [List.length_map, hK.kd.len])) ea_nil) (by omega) (fun _ => rfl) (show 11 < 12 by decide) fun k H1 e1 hk => ?_) fun lp H1 hlp e1 hp1 => ?_
    · exact et_test (ev_op (ev_lenL (K := K) (el_ups (ev_var rfl) (ev_var rfl) (hK.kd.ex e1) hSm)) ev_c rv_I0)
    have hplain : ∀ k, k ∈ (List.range kk.length).filter g0 ↔ k < kk.length ∧ cnt (rowAt kk) k kk.length ≤ 1 := fun k => by
      rw [List.mem_filter, List.mem_range]
      show _ ∧ decide (((upsL kk k).length : Int) < 2) = true ↔ _
      rw [decide_eq_true_eq, cnt_ups]
      omega
    have hpl : ((List.range kk.length).filter g0).length ≤ kk.length := Nat.le_trans (List.length_filter_le _ _) (by rw [List.length_range]; exact Nat.le_refl _)
    generalize (List.range kk.length).filter g0 = plain at hp1 hplain hpl
    have hB1 := hB.more e1
    have hK1 := hK.ex e1
    have hlpB : B lp = none := hB.new hlp
    have hlpN : lp ∉ p :: rs := hK.kd.fresh hlp
    -- the plain ones with children
    let g1 : Nat → Bool := fun k => !(rowAt kk k).isEmpty
    show tSeq (tAsg _ _) _ _ (S (some (.ref lp)) none none none none none none none none) H1
    refine Evl.q_asgL (xs := nVs (plain.filter g1)) (el_natLc (K := K) g1 (ev_var rfl) (sq_of hp1) (by omega) (fun _ => rfl) (show 11 < 12 by decide) fun k H2 e2 hk => ?_) fun li H2 hli e2 hp2 => ?_
    · obtain ⟨r, hr, hrow⟩ := (hK1.kd.ex e2).get (rowAt_get ((hplain k).mp hk).1)
      exact et_neNil (ev_row (hK1.kd.ex e2) hr (ev_var rfl) (ev_var rfl)) hrow
    have hinner : ∀ k, k ∈ plain.filter g1 ↔ (k < kk.length ∧ cnt (rowAt kk) k kk.length ≤ 1) ∧ rowAt kk k ≠ [] := fun k => by
      rw [List.mem_filter, hplain]
      show _ ∧ (!(rowAt kk k).isEmpty) = true ↔ _
      simp
    have hil : (plain.filter g1).length ≤ kk.length := Nat.le_trans (List.length_filter_le _ _) hpl
    generalize plain.filter g1 = inner at hp2 hinner hil
    have hB2 := hB1.more e2
    have hK2 := hK1.ex e2
    have hliB : B li = none := hB1.new hli
    replace hp1 := e2 _ _ hp1
    show tSeq (tIfS _ _ _) _ _ (S (some (.ref lp)) (some (.ref li)) none none none none none none none) H2
    refine q_when (b := inner.isEmpty) (et_eqNil (ev_var rfl) hp2) (fun hb H3 e3 => done H3 (hB2.more e3).ex ((hB2.more e3).wk (by omega)) rs (hK2.ex e3)) fun hb H3 e3 => ?_
    have hine : inner ≠ [] := by
      intro z
      rw [z] at hb
      cases hb
    have hB3 := hB2.more e3
    have hK3 := hK2.ex e3
    replace hp1 := e3 _ _ hp1
    replace hp2 := e3 _ _ hp2
    -- three draws
    refine q_three (K := K) (dk := dk) (li := li) (p := p) (L := L) (ns := ns) (N := N) (ks := inner) rfl rfl rfl hB3.deck (by omega) hK3.kd.at_ (by rw [List.length_map, hK3.kd.len]; exact hn1) (by rw [List.length_map, hK3.kd.len]; omega) hp2 hine (by omega) (hB3.ne hliB) fun low high way H4 hlow hhigh hway e4 d4 => ?_
    rw [List.length_map, hK3.kd.len] at hlow
    have hB4 := hB3.draw e4 d4
    have hK4 := hK3.draw hB3 e4
    replace hp1 := e4 lp _ (by rw [rem_ne (hB3.ne hlpB)]; exact hp1)
    obtain ⟨⟨hhn, hh1⟩, hhne⟩ := (hinner high).mp hhigh
    clear hp2 hine hil hinner hhigh d4
    have hhL : Lv ≤ high := by
      rcases Nat.lt_or_ge high Lv with z | z
      · exact absurd (hG.leaf high z) hhne
      · exact z
    show tSeq (tAsg _ _) _ _ (S (some (.ref lp)) (some (.ref li)) (some (nV low)) (some (nV high)) (some (nV way)) none none none none) H4
    refine Evl.q_asgL (xs := nVs (upsL kk low)) (el_ups (ev_var rfl) (ev_var rfl) hK4.kd hSm) fun lu H5 hlu e5 hp5 => ?_
    have hB5 := hB4.more e5
    have hK5 := hK4.ex e5
    replace hp1 := e5 _ _ hp1
    have hluB : B lu = none := hB4.new hlu
    have hluN : lu ∉ p :: rs := hK4.kd.fresh hlu
    show tSeq (tIfS _ _ _) _ _ (S (some (.ref lp)) (some (.ref li)) (some (nV low)) (some (nV high)) (some (nV way)) (some (.ref lu)) none none none) H5
    have hUlen : Ev (tCB (fun xs H Q => ∃ p ys, xs = [.ref p] ∧ (SqL K H p ys ∨ SqT K H p ys) ∧ Q (.int ys.length) H) (tCons (tVar 7) tNil)) (S (some (.ref lp)) (some (.ref li)) (some (nV low)) (some (nV high)) (some (nV way)) (some (.ref lu)) none none none) H5 (nV (upsL kk low).length) :=
      ev_is (ev_len (K := K) (ev_var rfl) (sq_of hp5)) (by unfold nVs nV; rw [List.length_map])
    refine q_when (b := (upsL kk low).isEmpty || (@decide (Rch kk low high) (Classical.propDecidable _) || (decide (high ∈ upsL kk low) && (decide ((way : Int) < 2) || decide (1 < ((upsL kk low).length : Int)))))) (et_or (et_eqNil (ev_var rfl) hp5) fun _ => et_or (et_down (ev_var rfl) (ev_var rfl) (ev_var rfl) hK5.kd hSm hlow hlt) fun _ =>
        et_and (et_test (ev_is (ev_op (x := nV high) (y := .ref lu) (ev_var rfl) (ev_var rfl) (rv_isL (K := K) (sq_of hp5) rfl (flat_nVs _))) (by rw [inV_nat]))) fun _ => et_or (et_test (ev_op (ev_var rfl) ev_c rv_I0)) fun _ => et_test (ev_op hUlen ev_c rv_I0))
      (fun hb H6 e6 => done H6 (hB5.more e6).ex ((hB5.more e6).wk (by omega)) rs (hK5.ex e6)) fun hb H6 e6 => ?_
    rw [Bool.or_eq_false_iff, Bool.or_eq_false_iff, Bool.and_eq_false_iff, Bool.or_eq_false_iff] at hb
    obtain ⟨hU0, hRb, hin⟩ := hb
    have hR : ¬ Rch kk low high := fun z => by
      rw [@decide_eq_true _ (Classical.propDecidable _) z] at hRb
      cases hRb
    have hUne : upsL kk low ≠ [] := fun z => by
      rw [z] at hU0
      cases hU0
    have hin : high ∈ upsL kk low → 2 ≤ way ∧ (upsL kk low).length ≤ 1 := fun z => by
      rcases hin with h | ⟨h1, h2⟩
      · exact absurd z (of_decide_eq_false h)
      · have h1 := of_decide_eq_false h1
        have h2 := of_decide_eq_false h2
        omega
    have hhl : high ≠ low := fun z => hR (z ▸ rch_self)
    have hB6 := hB5.more e6
    have hK6 := hK5.ex e6
    replace hp1 := e6 _ _ hp1
    replace hp5 := e6 _ _ hp5
    -- low is a mixing: one parent more
    show tSeq (tIfS _ _ _) _ _ (S (some (.ref lp)) (some (.ref li)) (some (nV low)) (some (nV high)) (some (nV way)) (some (.ref lu)) none none none) H6
    refine q_when (b := decide (1 < ((upsL kk low).length : Int))) (et_test (ev_op (hUlen.mono e6) ev_c rv_I0)) (fun hb H7 e7 => ?_) fun hb H7 e7 => ?_
    · have hb := of_decide_eq_true hb
      have hc2 : 2 ≤ cnt (rowAt kk) low kk.length := by
        rw [← cnt_ups]
        omega
      have hB7 := hB6.more e7
      have hK7 := hK6.ex e7
      obtain ⟨r, hr, hrow⟩ := hK7.kd.get (rowAt_get hhn)
      refine q_app (v := nV low) hrow (ev_row hK7.kd hr (ev_var rfl) (ev_var rfl)) (ev_var rfl) (by unfold nVs; rw [List.length_map]; have := nodup_len _ _ (hG.nd high) (fun c hc => hG.lt high c hc); omega) fun H8 e8 => ?_
      have hrB : B r = none := hK7.br r (List.mem_of_getElem? hr)
      have hlowL : Lv ≤ low := by
        rcases Nat.lt_or_ge low Lv with z | z
        · have := hG.lf1 low z
          omega
        · exact z
      have hnot : low ∉ rowAt kk high := fun z => by
        have := (hin (mem_ups.mpr ⟨hhn, z⟩)).2
        omega
      have hG' := gen_more (hG.at hc2) ⟨hlowL, hlow, hG.mix low hc2, by omega⟩ hhL hhn hh1 hhl hnot rch_shut rch_self hR
      have hK8 := (hK7.ex e8).row (ks := rowAt kk high ++ [low]) hr
      have hB8 : Bs B (upd H8 r (.lst (nVs (rowAt kk high ++ [low])))) dk L ns (N + 3) := (hB7.more e8).upd hrB
      have eR : nVs (rowAt kk high) ++ [nV low] = nVs (rowAt kk high ++ [low]) := by unfold nVs; rw [List.map_append]; rfl
      rw [eR]
      refine q _ rs (kk.set high (rowAt kk high ++ [low])) (hB8.wk (by omega)) hK8 ?_ (by rw [List.length_set]; omega)
      rw [rowAt_set hhn, List.length_set]
      exact hG'
    have hb := of_decide_eq_false hb
    have hU1 : (upsL kk low).length = 1 := by
      have : (upsL kk low).length ≠ 0 := fun z => hUne (List.length_eq_zero_iff.mp z)
      omega
    obtain ⟨up, hU⟩ : ∃ up, upsL kk low = [up] := by
      match h : upsL kk low, hU1 with
      | [up], _ => exact ⟨up, rfl⟩
    have hcl : cnt (rowAt kk) low kk.length = 1 := by rw [← cnt_ups, hU1]
    have hup : up < kk.length ∧ low ∈ rowAt kk up := mem_ups.mp (by rw [hU]; exact List.mem_singleton.mpr rfl)
    have hB7 := hB6.more e7
    have hK7 := hK6.ex e7
    replace hp1 := e7 _ _ hp1
    replace hp5 := e7 _ _ hp5
    rw [hU] at hp5
    clear hUlen hU0 hRb hUne hb
    let S7 (x8 x9 x10 : Option V) : L2.St := S (some (.ref lp)) (some (.ref li)) (some (nV low)) (some (nV high)) (some (nV way)) (some (.ref lu)) x8 x9 x10
    have evU0 : ∀ {x8 x9 x10 : Option V} {H' : Hp}, H' lu = some (.lst (nVs [up])) → Ev (tOp (rIxL K) (tVar 7) (tC (.int 0))) (S7 x8 x9 x10) H' (nV up) := fun h => ev_op (ev_var rfl) ev_c (rv_ixL (K := K) (sq_of h) (atI_nat (j := 0) rfl))
    -- there is another plain child
    obtain ⟨ru, hru, hrowu⟩ := hK7.kd.get (rowAt_get hup.1)
    have hupl : (rowAt kk up).length ≤ kk.length := nodup_len _ _ (hG.nd up) (fun c hc => hG.lt up c hc)
    let g2 : Nat → Bool := fun k => !decide (k = low) && decide (k ∈ plain)
    show tSeq (tIfS _ _ _) _ _ (S7 none none none) H7
    refine q_when (b := ((rowAt kk up).filter g2).isEmpty) (et_eqNilL (K := K) (el_natLc (K := K) (a := ru) g2 (ev_row hK7.kd hru (ev_var rfl) (evU0 hp5)) (sq_of hrowu) (by omega) (fun _ => rfl) (show 9 < 12 by decide) fun k H8 e8 hk => ?_)) (fun hb H8 e8 => done H8 (hB7.more e8).ex ((hB7.more e8).wk (by omega)) rs (hK7.ex e8)) fun hb H8 e8 => ?_
    · refine et_and (et_test (ev_is (ev_op (x := nV k) (y := nV low) (ev_var rfl) (ev_var rfl) (rv_ne rfl)) ?_)) fun _ => et_test (ev_is (ev_op (x := nV k) (y := .ref lp) (ev_var rfl) (ev_var rfl) (rv_isL (K := K) (sq_of (e8 _ _ hp1)) rfl (flat_nVs _))) (by rw [inV_nat]))
      show V.bl (!decide (V.int (k : Int) = V.int (low : Int))) = V.bl (!decide (k = low))
      rw [dec_int]
      congr 2
      by_cases z : k = low
      · subst z
        simp
      · rw [decide_eq_false z]
        exact beq_eq_false_iff_ne.mpr (by omega)
    obtain ⟨c0, hc0, hc0l, hc0p⟩ : ∃ c, c ∈ rowAt kk up ∧ c ≠ low ∧ cnt (rowAt kk) c kk.length ≤ 1 := by
      have hne : (rowAt kk up).filter g2 ≠ [] := fun z => by
        rw [z] at hb
        cases hb
      obtain ⟨c, hc⟩ := List.exists_mem_of_ne_nil _ hne
      rw [List.mem_filter] at hc
      have h2 : (!decide (c = low) && decide (c ∈ plain)) = true := hc.2
      simp only [Bool.and_eq_true, Bool.not_eq_true', decide_eq_false_iff_not, decide_eq_true_eq] at h2
      exact ⟨c, hc.1, h2.1, ((hplain c).mp h2.2).2⟩
    have hB8 := hB7.more e8
    have hK8 := hK7.ex e8
    replace hp1 := e8 _ _ hp1
    replace hp5 := e8 _ _ hp5
    clear hb hrowu
    -- the new mixing
    show tSeq (tDrop _) _ _ (S7 none none none) H8
    refine q_appL (ys := [nV low]) hK8.kd.at_ (ev_var rfl) (el_lst (ea_cons (ev_var rfl) ea_nil) (by simp)) (by rw [List.length_map, hK8.kd.len]; omega) fun rn H9 hrn e9 hnew => ?_
    have hrnB : B rn = none := hB8.new hrn
    have hrnN : rn ∉ p :: rs := hK8.kd.fresh hrn
    have hlprn : lp ≠ rn := ne_of_none hp1 hrn
    have hlurn : lu ≠ rn := ne_of_none hp5 hrn
    have hKa := (hK8.ex e9).app (ks := [low]) hnew hrnN hrnB
    have hBa : Bs B (upd H9 p (.lst ((rs ++ [rn]).map V.ref))) dk L ns (N + 3) := (hB8.more e9).upd hK8.bp
    have keep : ∀ {x : Addr} {o : HO}, H9 x = some o → x ≠ p → upd H9 p (.lst ((rs ++ [rn]).map V.ref)) x = some o := fun h n => by
      rw [upd_ne n]
      exact h
    have hlpp : lp ≠ p := fun z => hlpN (z ▸ List.mem_cons_self ..)
    have hlup : lu ≠ p := fun z => hluN (z ▸ List.mem_cons_self ..)
    have hlp1 : lp ∉ rs ++ [rn] := fun z => by
      rcases List.mem_append.mp z with z | z
      · exact hlpN (List.mem_cons_of_mem _ z)
      · exact hlprn (List.mem_singleton.mp z)
    have hp1a := keep (e9 _ _ hp1) hlpp
    have hp5a := keep (e9 _ _ hp5) hlup
    rw [show rs.map V.ref ++ [.ref rn] = (rs ++ [rn]).map V.ref by rw [List.map_append]; rfl]
    generalize upd H9 p (.lst ((rs ++ [rn]).map V.ref)) = Ha at hKa hBa hp1a hp5a ⊢
    clear keep hnew hp1 hp5 hK8 hB8 hrn hrnN
    generalize rs ++ [rn] = rs1 at hKa hlp1
    have hlen1 : (kk ++ [[low]]).length = kk.length + 1 := by simp
    have hrow1 : rowAt (kk ++ [[low]]) = setK (rowAt kk) kk.length [low] := rowAt_app
    have hup1 : rowAt (kk ++ [[low]]) up = rowAt kk up := by
      rw [hrow1, setK_ne (by omega)]
    -- up has it in low's place
    obtain ⟨ru1, hru1, hrowu1⟩ := hKa.kd.get (rowAt_get (show up < (kk ++ [[low]]).length by omega))
    rw [hup1] at hrowu1
    obtain ⟨ju, hju⟩ : ∃ j : Nat, (rowAt kk up)[j]? = some low := by
      obtain ⟨j, hj, e⟩ := List.mem_iff_getElem.mp hup.2
      exact ⟨j, by rw [List.getElem?_eq_getElem hj, e]⟩
    have hjl := (List.getElem?_eq_some_iff.mp hju).1
    have evLen : ∀ {x8 x9 x10 : Option V} {H' : Hp} {rs' : List Addr} {k' : List (List Nat)}, KdAt H' p rs' k' → Ev (tCB (fun xs H Q => ∃ p ys, xs = [.ref p] ∧ (SqL K H p ys ∨ SqT K H p ys) ∧ Q (.int ys.length) H) (tCons (tVar 1) tNil)) (S7 x8 x9 x10) H' (nV k'.length) := fun h =>
      ev_is (ev_len (K := K) (ev_var rfl) (sq_of h.at_)) (by unfold nV; rw [List.length_map, h.len])
    show tSeq (tAsg _ _) _ _ (S7 none none none) Ha
    refine q_setL (l := ru1) (j := ju) (v := nV kk.length) hrowu1 (ev_is (ev_op (evLen hKa.kd) ev_c rv_I0) (by rw [hlen1]; show V.int _ = V.int _; congr 1; omega)) (ev_row hKa.kd hru1 (ev_var rfl) (evU0 hp5a)) (ev_index (ev_row hKa.kd hru1 (ev_var rfl) (evU0 hp5a)) (ev_var rfl) hrowu1 hju (hG.nd up)) (by unfold nVs; rw [List.length_map]; exact hjl) fun H10 e10 => ?_
    have hruB : B ru1 = none := hKa.br ru1 (List.mem_of_getElem? hru1)
    have eset : (nVs (rowAt kk up)).set ju (nV kk.length) = nVs (rep low kk.length (rowAt kk up)) := by
      unfold nVs
      rw [← List.map_set, set_rep (hG.nd up) hju]
    rw [eset]
    have hKb := (hKa.ex e10).row (ks := rep low kk.length (rowAt kk up)) hru1
    have hBb : Bs B (upd H10 ru1 (.lst (nVs (rep low kk.length (rowAt kk up))))) dk L ns (N + 3) := (hBa.more e10).upd hruB
    have hp1b : upd H10 ru1 (.lst (nVs (rep low kk.length (rowAt kk up)))) lp = some (.lst (nVs plain)) := by
      rw [upd_ne (fun (z : lp = ru1) => hlp1 (by rw [z]; exact List.mem_of_getElem? hru1))]
      exact e10 _ _ hp1a
    generalize upd H10 ru1 (.lst (nVs (rep low kk.length (rowAt kk up)))) = Hb at hKb hBb hp1b ⊢
    clear eset hruB hrowu1 hju hjl hru1 hKa hBa hp1a hp5a
    obtain ⟨k2, hk2⟩ : ∃ k2, k2 = (kk ++ [[low]]).set up (rep low kk.length (rowAt kk up)) := ⟨_, rfl⟩
    rw [← hk2] at hKb
    have hlen2 : k2.length = kk.length + 1 := by rw [hk2, List.length_set, hlen1]
    have hrow2 : rowAt k2 = betweenK (rowAt kk) kk.length up low := by
      rw [hk2, rowAt_set (by omega), hrow1]
      funext x
      unfold betweenK setK
      by_cases a1 : x = up
      · subst a1
        rw [if_pos rfl, if_neg (by omega), if_pos rfl]
      · rw [if_neg a1]
        by_cases a2 : x = kk.length
        · rw [if_pos a2, if_pos a2]
        · rw [if_neg a2, if_neg a2, if_neg a1]
    obtain ⟨gX, lX, gc, gs⟩ := gen_between hG hup.1 hup.2 (by omega) ⟨c0, hc0, hc0l, hc0p⟩
    have gS := gs (Rch kk low) rch_shut rch_self
    have gH : ¬ (Rch kk low high ∨ high = kk.length) := by
      rintro (z | z)
      · exact hR z
      · omega
    rw [← hrow2] at gX lX gc gS
    rw [← hlen2] at gX lX gc
    have hSm2 : Sml k2 := sml_of gX (by omega)
    have hch : cnt (rowAt k2) high k2.length = cnt (rowAt kk) high kk.length := gc high (by omega)
    have hhn2 : high < k2.length := by omega
    obtain ⟨rh, hrh, hrowh⟩ := hKb.kd.get (rowAt_get hhn2)
    have hrhl : (rowAt k2 high).length ≤ 40 := hSm2.2 _ (List.mem_of_getElem? (rowAt_get hhn2))
    -- the spots
    let g3 : Nat → Bool := fun k => decide (k ∈ plain)
    show tSeq (tAsg _ _) _ _ (S7 none none none) Hb
    refine Evl.q_asgL (xs := nVs ((rowAt k2 high).filter g3)) (el_natLc (K := K) (a := rh) g3 (ev_row hKb.kd hrh (ev_var rfl) (ev_var rfl)) (sq_of hrowh) (by omega) (fun _ => rfl) (show 9 < 12 by decide) fun k H11 e11 hk => ?_) fun ls H11 hls e11 hpS => ?_
    · exact et_test (ev_is (ev_op (x := nV k) (y := .ref lp) (ev_var rfl) (ev_var rfl) (rv_isL (K := K) (sq_of (e11 _ _ hp1b)) rfl (flat_nVs _))) (by rw [inV_nat]))
    have hB11 := hBb.more e11
    have hK11 := hKb.ex e11
    have hlsB : B ls = none := hBb.new hls
    have hspot : ∀ s, s ∈ (rowAt k2 high).filter g3 → s ∈ rowAt k2 high ∧ s < kk.length ∧ cnt (rowAt k2) s k2.length ≤ 1 := fun s hs => by
      rw [List.mem_filter] at hs
      have h1 := (hplain s).mp (of_decide_eq_true hs.2)
      exact ⟨hs.1, h1.1, by rw [gc s (by omega)]; exact h1.2⟩
    have hspne : (rowAt k2 high).filter g3 ≠ [] := by
      have key : ∃ s, s ∈ rowAt k2 high ∧ s ∈ plain := by
        rw [hrow2]
        unfold betweenK
        rw [setK_ne (by omega)]
        by_cases z : high = up
        · subst z
          rw [setK_same]
          exact ⟨c0, (rep_mem hup.2).mpr (.inr ⟨hc0, hc0l⟩), (hplain c0).mpr ⟨hG.lt _ _ hc0, hc0p⟩⟩
        · rw [setK_ne z]
          obtain ⟨c, a1, a2, _⟩ := hG.bare high hhL hhn
          exact ⟨c, a1, (hplain c).mpr ⟨hG.lt _ _ a1, a2⟩⟩
      obtain ⟨s, h1, h2⟩ := key
      intro z
      have : s ∈ (rowAt k2 high).filter g3 := List.mem_filter.mpr ⟨h1, decide_eq_true h2⟩
      rw [z] at this
      cases this
    have hspl : ((rowAt k2 high).filter g3).length ≤ 40 := Nat.le_trans (List.length_filter_le _ _) hrhl
    generalize (rowAt k2 high).filter g3 = spots at hpS hspot hspne hspl
    clear hp1b hrowh hrh
    -- what follows the choice of spots
    have tail : ∀ (tz : TS) (D : Ends), D.nx = (fun (_ : L2.St) H' => Q .non H') →
        tz = tSeq (tAsg (tCall (spOne K) [] E0 (tCons (tVar 0) (tCons (tVar 8) tNil))) (gName 9))
          (tSeq (tAsg (tCall (spUps K) [] E0 (tCons (tVar 1) (tCons (tVar 9) tNil))) (gName 10))
          (tSeq (tDrop (tBM K "list" rAppend (tVar 1) (tCons (tLst (tCons (tVar 9) (tCons (tOp (rI0 fun i j => .int (i - j)) (tCB (fun xs H Q => ∃ p ys, xs = [.ref p] ∧ (SqL K H p ys ∨ SqT K H p ys) ∧ Q (.int ys.length) H) (tCons (tVar 1) tNil)) (tC (.int 1))) tNil))) tNil)))
          (tIfS (tTest (tOp (rNeD K) (tVar 10) (tLst tNil))) (tAsg (tOp (rI0 fun i j => .int (i - j)) (tCB (fun xs H Q => ∃ p ys, xs = [.ref p] ∧ (SqL K H p ys ∨ SqT K H p ys) ∧ Q (.int ys.length) H) (tCons (tVar 1) tNil)) (tC (.int 1)))
            (gSub (tOp (rIxL K) (tVar 1) (tOp (rIxL K) (tVar 10) (tC (.int 0)))) (tBM K "list" (rIndex K) (tOp (rIxL K) (tVar 1) (tOp (rIxL K) (tVar 10) (tC (.int 0)))) (tCons (tVar 9) tNil)) rSetL)) tNext))) →
        ∀ (sl : Addr) (sp : List Nat) (H' : Hp), Bs B H' dk L ns (N + 3) → Kds B H' p rs1 k2 → H' sl = some (.lst (nVs sp)) → B sl = none → sp ≠ [] → sp.length ≤ 40 →
        (∀ s ∈ sp, s < kk.length ∧ cnt (rowAt k2) s k2.length ≤ 1 ∧ ((s ∈ rowAt k2 high) ∨ (s = high ∧ cnt (rowAt k2) high k2.length = 0))) → tz D (S7 (some (.ref sl)) none none) H' := by
      intro tz D hD htz sl sp H' hB' hK' hsl hslB hspne hspl hsp
      subst htz
      refine q_one (ev_var rfl) (ev_var rfl) hB'.deck (by omega) hsl hspne (by omega) (hB'.ne hslB) fun s H12 hs e12 d12 => ?_
      obtain ⟨hsn, hs1, hs2⟩ := hsp s hs
      have hB12 := hB'.draw e12 d12
      have hK12 := hK'.draw hB' e12
      have eN : N + 3 + 1 = N + 4 := by omega
      rw [eN] at hB12
      show tSeq (tAsg _ _) _ _ (S7 (some (.ref sl)) (some (nV s)) none) H12
      refine Evl.q_asgL (xs := nVs (upsL k2 s)) (el_ups (ev_var rfl) (ev_var rfl) hK12.kd hSm2) fun lo H13 hlo e13 hpo => ?_
      have hB13 := hB12.more e13
      have hK13 := hK12.ex e13
      have hloN : lo ∉ p :: rs1 := hK12.kd.fresh hlo
      show tSeq (tDrop _) _ _ (S7 (some (.ref sl)) (some (nV s)) (some (.ref lo))) H13
      refine q_appL (ys := [nV s, nV kk.length]) hK13.kd.at_ (ev_var rfl) (el_lst (ea_cons (ev_var rfl) (ea_cons (ev_is (ev_op (evLen hK13.kd) ev_c rv_I0) (by rw [hlen2]; show V.int _ = V.int _; congr 1; omega)) ea_nil)) (by simp)) (by rw [List.length_map, hK13.kd.len]; omega) fun rq H14 hrq e14 hnew => ?_
      have hrqB : B rq = none := hB13.new hrq
      have hrqN : rq ∉ p :: rs1 := hK13.kd.fresh hrq
      have hlorq : lo ≠ rq := ne_of_none hpo hrq
      have hlop : lo ≠ p := fun z => hloN (by rw [z]; exact List.mem_cons_self ..)
      have hKc := (hK13.ex e14).app (ks := [s, kk.length]) hnew hrqN hrqB
      have hBc : Bs B (upd H14 p (.lst ((rs1 ++ [rq]).map V.ref))) dk L ns (N + 4) := (hB13.more e14).upd hK13.bp
      have hpoc : upd H14 p (.lst ((rs1 ++ [rq]).map V.ref)) lo = some (.lst (nVs (upsL k2 s))) := by
        rw [upd_ne hlop]
        exact e14 _ _ hpo
      rw [show rs1.map V.ref ++ [.ref rq] = (rs1 ++ [rq]).map V.ref by rw [List.map_append]; rfl]
      generalize upd H14 p (.lst ((rs1 ++ [rq]).map V.ref)) = Hc at hKc hBc hpoc ⊢
      generalize rs1 ++ [rq] = rs3 at hKc
      have hlen3 : (k2 ++ [[s, kk.length]]).length = kk.length + 2 := by rw [List.length_append, hlen2]; rfl
      have hrow3 : rowAt (k2 ++ [[s, kk.length]]) = setK (rowAt k2) k2.length [s, kk.length] := rowAt_app
      show tIfS _ _ _ _ (S7 (some (.ref sl)) (some (nV s)) (some (.ref lo))) Hc
      refine s_if (b := !(upsL k2 s).isEmpty) (et_neNil (ev_var rfl) hpoc) (fun hb H15 e15 => ?_) fun hb H15 e15 => ?_
      · have hne : upsL k2 s ≠ [] := fun z => by
          rw [z] at hb
          cases hb
        obtain ⟨v, o, hvo⟩ : ∃ v o, upsL k2 s = v :: o := by
          cases h : upsL k2 s with
          | nil => exact absurd h hne
          | cons v o => exact ⟨v, o, rfl⟩
        have hv := mem_ups.mp (show v ∈ upsL k2 s by rw [hvo]; exact List.mem_cons_self ..)
        have hvh : v = high := by
          rcases hs2 with h | ⟨h1, h2⟩
          · exact cnt_one hs1 hv.1 hhn2 hv.2 h
          · subst h1
            have := cnt_pos hv.1 hv.2
            omega
        subst hvh
        have hKd := hKc.ex e15
        have hBd := hBc.more e15
        have hpod := e15 _ _ hpoc
        rw [hvo] at hpod
        have evO : Ev (tOp (rIxL K) (tVar 10) (tC (.int 0))) (S7 (some (.ref sl)) (some (nV s)) (some (.ref lo))) H15 (nV v) := ev_op (ev_var rfl) ev_c (rv_ixL (K := K) (sq_of hpod) (atI_nat (j := 0) rfl))
        obtain ⟨rv, hrv, hrowv⟩ := hKd.kd.get (rowAt_get (show v < (k2 ++ [[s, kk.length]]).length by omega))
        have hrv3 : rowAt (k2 ++ [[s, kk.length]]) v = rowAt k2 v := by
          rw [hrow3, setK_ne (by omega)]
        rw [hrv3] at hrowv
        obtain ⟨jv, hjv⟩ : ∃ j : Nat, (rowAt k2 v)[j]? = some s := by
          obtain ⟨j, hj, e⟩ := List.mem_iff_getElem.mp hv.2
          exact ⟨j, by rw [List.getElem?_eq_getElem hj, e]⟩
        have hjl := (List.getElem?_eq_some_iff.mp hjv).1
        refine s_setL (l := rv) (j := jv) (v := nV (kk.length + 1)) hrowv (ev_is (ev_op (evLen hKd.kd) ev_c rv_I0) (by rw [hlen3]; show V.int _ = V.int _; congr 1; omega)) (ev_row hKd.kd hrv (ev_var rfl) evO) (ev_index (ev_row hKd.kd hrv (ev_var rfl) evO) (ev_var rfl) hrowv hjv (gX.nd v)) (by unfold nVs; rw [List.length_map]; exact hjl) fun H16 e16 => ?_
        have hrvB : B rv = none := hKd.br rv (List.mem_of_getElem? hrv)
        have eset : (nVs (rowAt k2 v)).set jv (nV (kk.length + 1)) = nVs (rep s (kk.length + 1) (rowAt k2 v)) := by
          unfold nVs
          rw [← List.map_set, set_rep (gX.nd v) hjv]
        rw [eset, hD]
        have hKe := (hKd.ex e16).row (ks := rep s (kk.length + 1) (rowAt k2 v)) hrv
        have hBe : Bs B (upd H16 rv (.lst (nVs (rep s (kk.length + 1) (rowAt k2 v))))) dk L ns (N + 4) := (hBd.more e16).upd hrvB
        refine q _ rs3 _ hBe hKe ?_ (by rw [List.length_set, hlen3]; exact Nat.le_refl _)
        rw [List.length_set, hlen3, rowAt_set (by omega), hrow3]
        have gA := gen_above gX lX hv.1 hv.2 hs1 (by omega) gS (.inr rfl) gH
        rw [hlen2] at gA ⊢
        have eK : setK (setK (rowAt k2) (kk.length + 1) [s, kk.length]) v (rep s (kk.length + 1) (rowAt k2 v)) = setK (setK (rowAt k2) v (rep s (kk.length + 1) (rowAt k2 v))) (kk.length + 1) [s, kk.length] := by
          funext x
          unfold setK
          by_cases a1 : x = v
          · subst a1
            rw [if_pos rfl, if_neg (by omega), if_pos rfl]
          · rw [if_neg a1]
            by_cases a2 : x = kk.length + 1
            · rw [if_pos a2, if_pos a2]
            · rw [if_neg a2, if_neg a2, if_neg a1]
        rw [eK]
        exact gA
      · have he : upsL k2 s = [] := by simpa using hb
        have h0 : cnt (rowAt k2) s k2.length = 0 := by rw [← cnt_ups, he]; rfl
        show D.nx _ H15
        rw [hD]
        refine q H15 rs3 _ (hBc.more e15) (hKc.ex e15) ?_ (by rw [hlen3]; exact Nat.le_refl _)
        have gT := gen_top gX lX (show s < k2.length by omega) h0
        rw [hlen3, hrow3]
        rw [hlen2] at gT ⊢
        exact gT
    -- the choice
    show tSeq (tIfS _ _ _) _ _ (S7 (some (.ref ls)) none none) H11
    have hEq0 : EvT (tTest (tOp (rEqD K) (tCall (spUps K) [] E0 (tCons (tVar 1) (tCons (tVar 5) tNil))) (tLst tNil))) (S7 (some (.ref ls)) none none) H11 (upsL k2 high).isEmpty := et_eqNilL (K := K) (el_ups (ev_var rfl) (ev_var rfl) hK11.kd hSm2)
    refine q_if (b := decide ((way : Int) = 3) && (upsL k2 high).isEmpty) (et_and (et_test (ev_is (ev_op (x := nV way) (y := .int 3) (ev_var rfl) ev_c (rv_eq rfl)) (by show V.bl (decide (V.int (way : Int) = V.int 3)) = _; rw [dec_int]; rfl))) fun _ => hEq0) (fun hb H12 e12 => ?_) fun hb H12 e12 => ?_
    · rw [Bool.and_eq_true] at hb
      have h0 : cnt (rowAt k2) high k2.length = 0 := by
        rw [← cnt_ups]
        rw [List.isEmpty_iff.mp hb.2]
        rfl
      refine s_asgL (xs := nVs [high]) (el_lst (ea_cons (ev_var rfl) ea_nil) (by show (1 : Nat) ≤ 100000; omega)) fun l2 H13 hl2 e13 hp13 => ?_
      refine tail _ _ rfl rfl l2 [high] H13 ((hB11.more e12).more e13) ((hK11.ex e12).ex e13) hp13 ((hB11.more e12).new hl2) (by simp) (by simp) fun s hs => ?_
      rw [List.mem_singleton.mp hs]
      exact ⟨hhn, by omega, .inr ⟨rfl, h0⟩⟩
    · refine s_when (b := decide ((way : Int) < 2)) (et_test (ev_op (ev_var rfl) ev_c rv_I0)) (fun hw H13 e13 => ?_) fun hw H13 e13 => ?_
      · have hw := of_decide_eq_true hw
        have hK13 := (hK11.ex e12).ex e13
        have hB13 := (hB11.more e12).more e13
        obtain ⟨rh, hrh, hrowh⟩ := hK13.kd.get (rowAt_get hhn2)
        have hup2 : high ≠ up := fun z => by
          have := (hin (by rw [hU, z]; exact List.mem_singleton.mpr rfl)).1
          omega
        have hKh : rowAt k2 high = rowAt kk high := by
          rw [hrow2]
          unfold betweenK
          rw [setK_ne (by omega), setK_ne hup2]
        have hnot : kk.length ∉ rowAt k2 high := fun z => by
          rw [hKh] at z
          have := hG.lt _ _ z
          omega
        refine q_app (v := nV kk.length) hrowh (ev_row hK13.kd hrh (ev_var rfl) (ev_var rfl)) (ev_is (ev_op (evLen hK13.kd) ev_c rv_I0) (by rw [hlen2]; show V.int _ = V.int _; congr 1; omega)) (by unfold nVs; rw [List.length_map]; omega) fun H14 e14 => ?_
        have hrB : B rh = none := hK13.br rh (List.mem_of_getElem? hrh)
        have eR : nVs (rowAt k2 high) ++ [nV kk.length] = nVs (rowAt k2 high ++ [kk.length]) := by unfold nVs; rw [List.map_append]; rfl
        rw [eR]
        have hKe := (hK13.ex e14).row (ks := rowAt k2 high ++ [kk.length]) hrh
        have hBe : Bs B (upd H14 rh (.lst (nVs (rowAt k2 high ++ [kk.length])))) dk L ns (N + 3) := (hB13.more e14).upd hrB
        have gM := gen_more gX lX hhL hhn2 (by omega) (by omega) hnot gS (.inr rfl) gH
        refine q _ rs1 _ (hBe.wk (by omega)) hKe ?_ (by rw [List.length_set]; omega)
        rw [List.length_set, rowAt_set hhn2]
        exact gM
      · refine tail _ _ rfl rfl ls spots H13 ((hB11.more e12).more e13) ((hK11.ex e12).ex e13) (e13 _ _ (e12 _ _ hpS)) hlsB hspne hspl fun s hs => ?_
        obtain ⟨a1, a2, a3⟩ := hspot s hs
        exact ⟨a2, a3, .inl a1⟩
end
end WR
-- auto
set_option Elab.async false
set_option linter.all false
set_option maxRecDepth 100000
set_option maxHeartbeats 2000000
namespace WR
open PySem PySem.Spec PyProof.Rows L2 Evl

/-! ### _law_tree -/
/-- a tree as it grows: all kinds but the loose ones have one parent -/
structure TreeG (L n : Nat) (K : Nat → List Nat) (lo : List Nat) : Prop where
  l1 : 1 ≤ L
  ln : L ≤ n
  out : ∀ u, n ≤ u → K u = []
  leaf : ∀ u, u < L → K u = []
  lt : ∀ u c, c ∈ K u → c < u
  un : ∀ u c, c ∈ K u → u < n
  nd : ∀ u, (K u).Nodup
  two : ∀ u, L ≤ u → u < n → 2 ≤ (K u).length
  cn : ∀ k, k < n → cnt K k n = if k ∈ lo then 0 else 1
  lon : ∀ k, k ∈ lo → k < n
  lnd : lo.Nodup
theorem TreeG.gen {L n t : Nat} {K : Nat → List Nat} (g : TreeG L n K [t]) : Gen L n K := by
  have c1 : ∀ k, k < n → cnt K k n ≤ 1 := fun k hk => by
    rw [g.cn k hk]
    split <;> omega
  have hn : ∀ u c, c ∈ K u → c < n := fun u c h => by
    have := g.lt u c h
    by_cases z : n ≤ u
    · rw [g.out u z] at h
      cases h
    · omega
  refine ⟨g.l1, g.ln, g.out, g.leaf, hn, g.nd, ⟨id, g.lt⟩, fun u h1 h2 _ _ => g.two u h1 h2, fun u h => ?_, fun u h => c1 u (by have := g.ln; omega), fun u h1 h2 => ?_, t, g.lon t (List.mem_singleton.mpr rfl), fun k hk => ?_⟩
  · by_cases z : u < n
    · have := c1 u z
      omega
    · have : cnt K u n = 0 := cnt_out fun v hv hu => z (hn v u hu)
      omega
  · have h3 := g.two u h1 h2
    cases e : K u with
    | nil =>
      rw [e] at h3
      exact absurd h3 (by simp)
    | cons c r =>
      have hc := hn u c (by rw [e]; exact List.mem_cons_self ..)
      exact ⟨c, List.mem_cons_self .., c1 c hc, by omega⟩
  · rw [g.cn k hk]
    by_cases z : k = t
    · subst z
      rw [if_pos (List.mem_singleton.mpr rfl)]
      exact ⟨fun _ => rfl, fun _ => rfl⟩
    · rw [if_neg (fun y => z (List.mem_singleton.mp y))]
      exact ⟨fun y => (by omega), fun y => absurd y z⟩
/-- some loose kinds get a parent -/
theorem TreeG.step {L n : Nat} {K : Nat → List Nat} {lo got cur : List Nat} (g : TreeG L n K lo) (hp : (got ++ cur).Perm lo) (h2 : 2 ≤ got.length) : TreeG L (n + 1) (setK K n got) (cur ++ [n]) := by
  have hnd : (got ++ cur).Nodup := hp.nodup_iff.mpr g.lnd
  rw [List.nodup_append] at hnd
  obtain ⟨nd1, nd2, dis⟩ := hnd
  have hm : ∀ x, x ∈ lo ↔ x ∈ got ∨ x ∈ cur := fun x => by rw [← hp.mem_iff, List.mem_append]
  have hg : ∀ x ∈ got, x < n := fun x h => g.lon x ((hm x).mpr (.inl h))
  have hc : ∀ x ∈ cur, x < n := fun x h => g.lon x ((hm x).mpr (.inr h))
  have hln := g.ln
  refine ⟨g.l1, by omega, fun u hu => ?_, fun u hu => ?_, fun u c h => ?_, fun u c h => ?_, fun u => ?_, fun u h1 h3 => ?_, fun k hk => ?_, fun k hk => ?_, ?_⟩
  · rw [setK_ne (by omega)]
    exact g.out u (by omega)
  · rw [setK_ne (by omega)]
    exact g.leaf u hu
  · by_cases z : u = n
    · subst z
      rw [setK_same] at h
      exact hg c h
    · rw [setK_ne z] at h
      exact g.lt u c h
  · by_cases z : u = n
    · omega
    · rw [setK_ne z] at h
      by_cases y : n ≤ u
      · rw [g.out u y] at h
        cases h
      · omega
  · by_cases z : u = n
    · subst z
      rw [setK_same]
      exact nd1
    · rw [setK_ne z]
      exact g.nd u
  · by_cases z : u = n
    · subst z
      rw [setK_same]
      exact h2
    · rw [setK_ne z]
      exact g.two u h1 (by omega)
  · show cnt (setK K n got) k n + (if k ∈ setK K n got n then 1 else 0) = _
    rw [cnt_ge (Nat.le_refl _), setK_same]
    by_cases z : k = n
    · subst z
      rw [cnt_out fun u hu h => by have := g.lt u k h; omega, if_neg fun h => Nat.lt_irrefl _ (hg k h), if_pos (by simp)]
    · rw [g.cn k (by omega)]
      have e1 : (k ∈ cur ++ [n]) ↔ k ∈ cur := by simp [z]
      simp only [hm k, e1]
      by_cases a : k ∈ got
      · have : k ∉ cur := fun y => dis k a k y rfl
        simp [a, this]
      · simp [a]
  · rcases List.mem_append.mp hk with h | h
    · have := hc k h
      omega
    · rw [List.mem_singleton.mp h]
      omega
  · rw [List.nodup_append]
    exact ⟨nd2, by simp, fun a ha b hb z => by
      have := hc a ha
      have := List.mem_singleton.mp hb
      omega⟩
def spTree (K : PySem.W.Frag) : Sp := fun vs H Q _ => ∃ dk L ns N Lv, vs = [.ref dk, nV Lv] ∧ Dk H dk L ns N ∧ N ≤ 900000000 ∧ 1 ≤ Lv ∧ Lv ≤ 9 ∧
  ∀ H' p rs kk, Bs H H' dk L ns (N + 40) → Kds H H' p rs kk → Gen Lv kk.length (rowAt kk) → kk.length + 1 ≤ 2 * Lv → Q (.ref p) H'
abbrev nTree : List Str := ["_law_deck_here", "_law_leaves", "_law_found", "_law_loose", "_law_size", "_law_leaf", "_law_k"]
theorem scTree : FnScope nTree ["_law_deck_here", "_law_leaves"] (defScope sLTree) := ⟨rfl, rfl, rfl, by decide +kernel, rfl, by decide +kernel, by decide +kernel⟩
theorem perm_erase {x : Nat} : ∀ {cur : List Nat} {j : Nat}, cur[j]? = some x → (x :: cur.eraseIdx j).Perm cur
  | a :: r, 0, h => by
    have e : a = x := by simpa using h
    subst e
    exact List.Perm.refl _
  | a :: r, j + 1, h => by
    have h : r[j]? = some x := by simpa using h
    exact (List.Perm.swap a x _).trans ((perm_erase h).cons a)
theorem nVs_erase : ∀ {cur : List Nat} {j : Nat}, (nVs cur).eraseIdx j = nVs (cur.eraseIdx j)
  | [], _ => by simp [nVs]
  | a :: r, 0 => rfl
  | a :: r, j + 1 => by
    show nV a :: (nVs r).eraseIdx j = nV a :: nVs (r.eraseIdx j)
    rw [nVs_erase]
theorem rowAt_rep {n u : Nat} : rowAt (List.replicate n []) u = [] := by
  unfold rowAt
  rw [List.getD_eq_getElem?_getD, List.getElem?_replicate]
  split <;> rfl
theorem tree_start {L : Nat} (h : 1 ≤ L) : TreeG L L (rowAt (List.replicate L [])) (List.range L) := by
  refine ⟨h, Nat.le_refl _, fun u _ => rowAt_rep, fun u _ => rowAt_rep, fun u c hc => ?_, fun u c hc => ?_, fun u => ?_, fun u h1 h2 => by omega, fun k hk => ?_, fun k hk => List.mem_range.mp hk, List.nodup_range⟩
  · rw [rowAt_rep] at hc
    cases hc
  · rw [rowAt_rep] at hc
    cases hc
  · rw [rowAt_rep]
    exact List.nodup_nil
  · rw [if_pos (List.mem_range.mpr hk)]
    exact cnt_out fun u _ hc => by
      rw [rowAt_rep] at hc
      cases hc
theorem rgV_nat {n : Nat} : rgV 0 (n : Int) = nVs (List.range n) := by
  unfold rgV nVs
  rw [show ((n : Int) - 0).toNat = n by omega]
  refine List.map_congr_left fun i _ => ?_
  show V.int (0 + (i : Int)) = V.int (i : Int)
  congr 1
  omega
theorem yes_ {σ : L2.St} {H : Hp} {A C : Hp → Prop} (h : A H) : tYes σ H (fun b H3 => if b = true then A H3 else C H3) := by
  show (if true = true then A H else C H)
  rw [if_pos rfl]
  exact h
theorem seq_nat {i n : Nat} (h : i < n) : seqIndex? (i : Int) n = some i := by
  unfold seqIndex?
  have h1 : ¬ ((i : Int) < 0) := by omega
  simp only [h1, if_false]
  have h2 : (decide (0 ≤ (i : Int)) && decide ((i : Int) < (n : Int))) = true := by
    rw [Bool.and_eq_true, decide_eq_true_eq, decide_eq_true_eq]
    omega
  rw [h2]
  simp
section
variable {P : Program} {w : World} {K : PySem.W.Frag} {mg : Str → Option Value} {base : Heap}
theorem Kds.other {B H : Hp} {p r : Addr} {rs : List Addr} {kk : List (List Nat)} {o : HO} (k : Kds B H p rs kk) (hr : r ∉ p :: rs) : Kds B (upd H r o) p rs kk := by
  rw [List.mem_cons, not_or] at hr
  refine ⟨⟨by rw [upd_ne (Ne.symm hr.1)]; exact k.kd.at_, k.kd.len, k.kd.nd, k.kd.np, fun i r' ks h1 h2 => ?_⟩, k.bp, k.br⟩
  rw [upd_ne fun (z : r' = r) => hr.2 (z ▸ List.mem_of_getElem? h1)]
  exact k.kd.row i r' ks h1 h2
theorem ok_tree {f fW fO : Addr} {fd fdW fdO : FuncData} (F : Fun K "_law_tree" "_law_tree" sLTree f fd)
    (FW : Fun K "_law_draw" "_law_draw" sDraw fW fdW) (bW : Binds K fdW ["_law_deck_here", "_law_many"] []) (gW : mg "_law_draw" = some (.ref fW))
    (FO : Fun K "_law_one" "_law_one" sOne fO fdO) (bO : Binds K fdO ["_law_deck_here", "_law_items"] []) (gO : mg "_law_one" = some (.ref fO))
    (m1 : mg "range" = none) (m2 : mg "list" = none) (m3 : mg "len" = none) (m4 : mg "min" = none)
    (GW : FnOk P w K mg base CX0 1 fW fdW ["_law_deck_here", "_law_many"] spDraw)
    (GO : FnOk P w K mg base CX0 2 fO fdO ["_law_deck_here", "_law_items"] (spOne K)) :
    FnOk P w K mg base CX0 3 f fd ["_law_deck_here", "_law_leaves"] (spTree K) := by
  refine F.ok scTree (fun vs H Q E h => ?_) (fun cdv A outer s H vs Q E hr h => ?_)
  · obtain ⟨dk, L, ns, N, Lv, rfl, _⟩ := h
    rfl
  obtain ⟨dk, L, ns, N, Lv, rfl, hD, hN, hL1, hL9, q⟩ := h
  have r1 := hr.mono (show 1 ≤ 2 by decide)
  have hu := hr.units
  apply Exists.intro
  apply And.intro
  case left =>
    refine' pss_cons (ps_asg (pe_tup (pa_cons (pe_lc (own := [("_law_leaf", 5)]) (g := gName 5) rfl scTree.nd (pi_range1 (by rfl) m1 (pa_cons (pv 1) pa_nil)) (blkOk_by (N := nTree) (sc := defScope sLTree) (by decide +kernel))
        (fun _ _ _ _ _ => pg_name (i := 5) scTree.nd rfl (Or.inl rfl)) (fun _ _ _ _ _ => pts_nil) (fun _ _ _ _ _ => pe_lst pa_nil))
      (pa_cons (pe_listRg rfl (by rfl) m2 (prg_1 (by rfl) m1 (pv 1))) pa_nil)))
      (pg_tup rfl (pgs_cons (pg_name (i := 2) scTree.nd rfl (.inl rfl)) (pgs_cons (pg_name (i := 3) scTree.nd rfl (.inr rfl)) pgs_nil)))) ?r0
    case' r0 => skip
    refine' pss_cons (ps_while PassesOwn.never (pt_cmpR op_gt (pe_callB (r := rLenS K) call_len_seq (by rfl) m3 PySem.boot_len (pa_cons (pv 3) pa_nil)) pe_int (nomark _)) ?wb) ?r1
    case' wb =>
      refine' pss_cons (ps_set (i := 4) scTree.nd rfl (.inl rfl) (pe_callB (call_min2 rfl) (by rfl) m4 (by decide +kernel) (pa_cons (pe_callB (r := rLenS K) call_len_seq (by rfl) m3 PySem.boot_len (pa_cons (pv 3) pa_nil))
        (pa_cons (pe_call GO hr (by rfl) gO FO.kp bO .nil pass0 (pa_cons (pv 0) (pa_cons (pe_lst (pa_cons pe_int (pa_cons pe_int (pa_cons pe_int (pa_cons pe_int pa_nil))))) pa_nil))) pa_nil)))) ?w1
      case' w1 => skip
      refine' pss_cons (ps_expr (pe_bm PySem.F.plainAttrs_list PySem.F.slot_list_append PySem.F.type_list_append mt_append (pv 2) (pa_cons
        (pe_lc (own := [("_law_k", 6)]) (g := gName 6) (te := tBM K "list" rPopAt (tVar 3) (tCons (tCall spDraw [] _ (tCons (tVar 0) (tCons (tCB (rLenS K) (tCons (tVar 3) tNil)) tNil))) tNil)) rfl scTree.nd (pi_range1 (by rfl) m1 (pa_cons (pv 4) pa_nil)) (blkOk_by (N := nTree) (sc := defScope sLTree) (by decide +kernel))
          (fun _ _ _ _ _ => pg_name (i := 6) scTree.nd rfl (Or.inl rfl)) (fun _ _ _ _ _ => pts_nil)
          (fun _ _ _ _ _ => pe_bm PySem.F.plainAttrs_list PySem.F.slot_list_pop PySem.F.type_list_pop mt_popAt (pv 3) (pa_cons (pe_call GW r1 (by rfl) gW FW.kp bW .nil pass0 (pa_cons (pv 0) (pa_cons (pe_callB (r := rLenS K) call_len_seq (by rfl) m3 PySem.boot_len (pa_cons (pv 3) pa_nil)) pa_nil))) pa_nil))) pa_nil))) ?w2
      case' w2 => skip
      exact pss_one (ps_expr (pe_bm PySem.F.plainAttrs_list PySem.F.slot_list_append PySem.F.type_list_append mt_append (pv 3) (pa_cons (pe_op op_sub (pe_callB (r := rLenS K) call_len_seq (by rfl) m3 PySem.boot_len (pa_cons (pv 2) pa_nil)) pe_int) pa_nil)))
    case' r1 => skip
    exact pss_one (ps_ret (pv 2))
  case right =>
    have hB0 : Bs H H dk L ns N := ⟨rem_ex, hD, by obtain ⟨a, b, n, d, _⟩ := hD; exact ⟨_, d.at_⟩, by obtain ⟨a, b, n, d, _⟩ := hD; exact ⟨_, d.ls⟩⟩
    let S : Option V → Option V → Option V → L2.St := fun x2 x3 x4 => [some (.ref dk), some (nV Lv), x2, x3, x4, none, none]
    refine ⟨nV Lv, rfl, (Lv : Int), rfl, by omega, by omega, fun p hp => ?_⟩
    rw [Int.toNat_natCast]
    refine lc_range (fun i H' => ∃ rs, Ex H H' ∧ Kds H H' p rs (List.replicate i [])) ⟨[], Ex.new hp, ⟨upd_same, rfl, List.nodup_nil, List.not_mem_nil, fun i r ks h _ => by cases h⟩, hp, fun r h => by cases h⟩ (fun i H' hi hP => ?_) fun H' hP => ?_
    · obtain ⟨rs, e, k⟩ := hP
      refine ⟨rfl, ?_⟩
      refine yes_ ?_
      show tLst tNil _ _ _
      refine ⟨by show 0 ≤ sizeLine; decide, fun r hr => ?_⟩
      have k1 := k.ex (Ex.new (o := .lst []) hr)
      have hlr : rs.length = i := by rw [k.kd.len, List.length_replicate]
      refine ⟨rs.map V.ref, k1.kd.at_, sz_lt (by rw [List.length_map]; omega), rs ++ [r], Ex.mut (e.trans (Ex.new hr)) hp, ?_⟩
      rw [show rs.map V.ref ++ [V.ref r] = (rs ++ [r]).map V.ref by rw [List.map_append]; rfl, List.replicate_succ']
      exact k1.app upd_same (k.kd.fresh hr) (fresh_back e hr)
    obtain ⟨rs, e, k⟩ := hP
    refine ⟨nV Lv, rfl, (Lv : Int), rfl, RgOk.of_le (by omega) (by omega) (by omega) (by omega), fun lo hlo => ⟨by show 2 ≤ sizeLine; decide, fun T hT => ?_⟩⟩
    refine ⟨T, _, rfl, st_of upd_same, rfl, _, _, rfl, _, _, rfl, rfl, ?_⟩
    have e1 := Ex.new (o := .lst (rgV 0 (Lv : Int))) hlo
    have e2 := e1.trans (Ex.new (o := .tup [.ref p, .ref lo]) hT)
    have hlo2 : upd (upd H' lo (.lst (rgV 0 (Lv : Int)))) T (.tup [.ref p, .ref lo]) lo = some (.lst (nVs (List.range Lv))) := by
      rw [← rgV_nat]
      exact Ex.new hT _ _ upd_same
    have hloB : H lo = none := fresh_back e hlo
    have hlon : lo ∉ p :: rs := k.kd.fresh hlo
    show tSeq (tWhile _ _) _ _ (S (some (.ref p)) (some (.ref lo)) none) (upd (upd H' lo (.lst (rgV 0 (Lv : Int)))) T (.tup [.ref p, .ref lo]))
    have k2 := k.ex e2
    have e3 := e.trans e2
    generalize upd (upd H' lo (.lst (rgV 0 (Lv : Int)))) T (.tup [.ref p, .ref lo]) = H2 at k2 e3 hlo2 ⊢
    clear e1 e2 hT hlo k e
    let Inv (m : Nat) (σ' : L2.St) (H' : Hp) : Prop := ∃ (rs : List Addr) (kk : List (List Nat)) (loose : List Nat) (x4 : Option V) (M : Int), σ' = S (some (.ref p)) (some (.ref lo)) x4 ∧ Bs H H' dk L ns M ∧ M + 4 * m ≤ N + 40 ∧ Kds H H' p rs kk ∧
      H' lo = some (.lst (nVs loose)) ∧ lo ∉ p :: rs ∧ TreeG Lv kk.length (rowAt kk) loose ∧ kk.length + loose.length ≤ 2 * Lv ∧ 1 ≤ loose.length ∧ m = loose.length
    refine q_while Inv Lv ⟨rs, List.replicate Lv [], List.range Lv, none, N, rfl, hB0.more e3, by omega, k2, hlo2, hlon, ?_, ?_, ?_, ?_⟩ fun m σ' H' hI => ?_
    · rw [List.length_replicate]
      exact tree_start hL1
    · rw [List.length_replicate, List.length_range]
      omega
    · rw [List.length_range]
      exact hL1
    · rw [List.length_range]
    obtain ⟨rs, kk, loose, x4, M, rfl, hB, hM, hK, hl, hln, hG, hsz, h1, hm⟩ := hI
    have hnvl : (nVs loose).length = loose.length := by unfold nVs; rw [List.length_map]
    refine ⟨decide ((1 : Int) < (loose.length : Int)), et_test (ev_op (ev_is (ev_len (K := K) (ev_var rfl) (sq_of hl)) (by rw [hnvl])) ev_c rv_I0), fun hb H3 e4 => ?_, fun hb H3 e4 => ?_⟩
    rotate_left
    · have hb := of_decide_eq_false hb
      cases loose with
      | nil => exact absurd h1 (by simp)
      | cons t r =>
        cases r with
        | cons t2 r2 =>
          exact absurd hb (by simp only [List.length_cons]; omega)
        | nil =>
          refine s_ret (v := .ref p) (ev_var rfl) fun H4 e5 => ?_
          exact q H4 p rs kk (((hB.more e4).more e5).wk (by omega)) ((hK.ex e4).ex e5) hG.gen (by omega)
    have hb := of_decide_eq_true hb
    replace hB := hB.more e4
    replace hK := hK.ex e4
    replace hl := e4 _ _ hl
    refine ⟨fun σ2 H2 => ∃ m', m' < m ∧ Inv m' σ2 H2, fun σ2 H2 h => h, ?_⟩
    -- how many
    refine ⟨.ref lo, rfl, lo, nVs loose, rfl, .inl (sq_of hl), .ref dk, rfl, by show 4 ≤ sizeLine; decide, fun li hli => ?_⟩
    have b1 := hB.more (Ex.new (o := .lst [.int 2, .int 2, .int 2, .int 3]) hli)
    have hliB : H li = none := hB.new hli
    refine ⟨dk, L, ns, M, li, _, rfl, b1.deck, by omega, upd_same, hB.ne hliB, by decide, by decide, fun x H4 hx e5 d5 => ?_⟩
    have hl1 := Ex.new (o := .lst [.int 2, .int 2, .int 2, .int 3]) hli _ _ hl
    have hK1 := hK.ex (Ex.new (o := .lst [.int 2, .int 2, .int 2, .int 3]) hli)
    have hK4 := hK1.draw b1 e5
    have hl4 := e5 lo _ (by rw [rem_ne (b1.ne hloB)]; exact hl1)
    have b4 := b1.draw e5 d5
    obtain ⟨k, rfl, hk2, hk3⟩ : ∃ k : Nat, x = .int (k : Int) ∧ 2 ≤ k ∧ k ≤ 3 := by
      simp only [List.mem_cons, List.not_mem_nil, or_false] at hx
      rcases hx with rfl | rfl | rfl | rfl
      · exact ⟨2, rfl, by decide, by decide⟩
      · exact ⟨2, rfl, by decide, by decide⟩
      · exact ⟨2, rfl, by decide, by decide⟩
      · exact ⟨3, rfl, by decide, by decide⟩
    refine ⟨(nVs loose).length, (k : Int), rfl, ?_⟩
    rw [hnvl]
    obtain ⟨sz, hsz2, hsz3, hszl, hsze⟩ : ∃ sz : Nat, 2 ≤ sz ∧ sz ≤ 3 ∧ sz ≤ loose.length ∧ (if (k : Int) < (loose.length : Int) then (k : Int) else (loose.length : Int)) = (sz : Int) := by
      by_cases z : (k : Int) < (loose.length : Int)
      · exact ⟨k, hk2, hk3, by omega, if_pos z⟩
      · exact ⟨loose.length, by omega, by omega, Nat.le_refl _, if_neg z⟩
    rw [hsze]
    show tSeq _ _ _ (S (some (.ref p)) (some (.ref lo)) (some (nV sz))) H4
    clear hli b1 hliB e5 d5 hl1 hK1 hB hK hl hx
    -- the children
    refine ⟨.ref p, rfl, .inl ⟨rfl, _, sq_of hK4.kd.at_⟩, nV sz, rfl, (sz : Int), rfl, by omega, by omega, fun D hD0 => ?_⟩
    rw [Int.toNat_natCast]
    have hDB : H D = none := b4.new hD0
    have hDn : D ∉ p :: rs := hK4.kd.fresh hD0
    have hDl : D ≠ lo := fun z => by
      rw [z, hl4] at hD0
      cases hD0
    refine lc_range (fun i H' => ∃ got cur, got.length = i ∧ (got ++ cur).Perm loose ∧ Bs H H' dk L ns (M + 1 + i) ∧ Kds H H' p rs kk ∧ H' lo = some (.lst (nVs cur)) ∧ H' D = some (.lst (nVs got)))
      ⟨[], loose, rfl, List.Perm.refl _, (b4.more (Ex.new hD0)).wk (by omega), hK4.ex (Ex.new hD0), Ex.new hD0 _ _ hl4, upd_same⟩ (fun i H5 hi hP => ?_) fun H5 hP => ?_
    · obtain ⟨got, cur, hg, hp2, b5, k5, hl5, hd5⟩ := hP
      refine ⟨rfl, ?_⟩
      refine yes_ ?_
      show tBM K "list" rPopAt _ _ _ _ _
      have hlen := hp2.length_eq
      rw [List.length_append] at hlen
      have hcl : (nVs cur).length = cur.length := by unfold nVs; rw [List.length_map]
      refine ⟨.ref lo, rfl, .inl ⟨rfl, _, sq_of hl5⟩, .ref dk, rfl, .ref lo, rfl, lo, nVs cur, rfl, .inl (sq_of hl5), dk, L, ns, _, M + 1 + i, rfl, b5.deck, by omega, by omega, by omega, fun r H6 a1 a2 e6 d6 => ?_⟩
      obtain ⟨j, rfl⟩ : ∃ j : Nat, r = (j : Int) := ⟨r.toNat, (Int.toNat_of_nonneg a1).symm⟩
      have hj : j < cur.length := by omega
      have hl6 := e6 lo _ (by rw [rem_ne (b5.ne hloB)]; exact hl5)
      have hd6 := e6 D _ (by rw [rem_ne (b5.ne hDB)]; exact hd5)
      have k6 := k5.draw b5 e6
      have b6 := b5.draw e6 d6
      have hx : cur[j]? = some cur[j] := List.getElem?_eq_getElem hj
      refine ⟨lo, nVs cur, (j : Int), j, nV cur[j], rfl, rfl, hl6, by omega, by omega, by rw [hcl]; exact seq_nat hj, nVs_at hx, ?_⟩
      have hgl : (nVs got).length = got.length := by unfold nVs; rw [List.length_map]
      refine ⟨nVs got, by rw [upd_ne hDl]; exact hd6, sz_lt (by omega), got ++ [cur[j]], cur.eraseIdx j, by rw [List.length_append, hg]; rfl, ?_, ?_, ?_, ?_, ?_⟩
      · rw [List.append_assoc]
        exact ((perm_erase hx).append_left got).trans hp2
      · exact (((b6.upd hloB).upd hDB)).wk (by omega)
      · exact (k6.other hln).other hDn
      · rw [upd_ne (Ne.symm hDl), upd_same, nVs_erase]
      · rw [upd_same]
        unfold nVs
        rw [List.map_append]
        rfl
    obtain ⟨got, cur, hg, hp2, b5, k5, hl5, hd5⟩ := hP
    have hlen := hp2.length_eq
    rw [List.length_append] at hlen
    have hrl : rs.length = kk.length := k5.kd.len
    refine ⟨p, rs.map V.ref, .ref D, rfl, rfl, k5.kd.at_, sz_lt (by rw [List.length_map]; omega), ?_⟩
    have k6 := k5.app hd5 hDn hDB
    have b6 := b5.upd (o := .lst ((rs ++ [D]).map V.ref)) hK4.bp
    have hl6 : upd H5 p (.lst ((rs ++ [D]).map V.ref)) lo = some (.lst (nVs cur)) := by
      rw [upd_ne (fun z => hln (by rw [z]; exact List.mem_cons_self ..))]
      exact hl5
    rw [show rs.map V.ref ++ [V.ref D] = (rs ++ [D]).map V.ref by rw [List.map_append]; rfl]
    generalize upd H5 p (.lst ((rs ++ [D]).map V.ref)) = H6 at k6 b6 hl6 ⊢
    -- and they are loose no more
    have hcl : (nVs cur).length = cur.length := by unfold nVs; rw [List.length_map]
    refine s_app (v := nV kk.length) hl6 (ev_var rfl) (ev_is (ev_op (x := nV (kk ++ [got]).length) (ev_is (ev_len (K := K) (ev_var rfl) (sq_of k6.kd.at_)) (by rw [List.length_map, k6.kd.len]; rfl)) ev_c rv_I0) ?_) (by omega) fun H7 e7 => ?_
    · rw [List.length_append]
      show V.int _ = V.int _
      congr 1
      simp only [List.length_cons, List.length_nil]
      omega
    have hln2 : lo ∉ p :: (rs ++ [D]) := fun z => by
      rcases List.mem_cons.mp z with z | z
      · exact hln (by rw [z]; exact List.mem_cons_self ..)
      · rcases List.mem_append.mp z with z | z
        · exact hln (List.mem_cons_of_mem _ z)
        · exact hDl (List.mem_singleton.mp z).symm
    refine ⟨cur.length + 1, by omega, rs ++ [D], kk ++ [got], cur ++ [kk.length], _, M + 1 + sz, rfl, (b6.more e7).upd hloB, by omega, (k6.ex e7).other hln2, ?_, hln2, ?_, ?_, ?_, ?_⟩
    · rw [upd_same]
      unfold nVs
      rw [List.map_append]
      rfl
    · rw [List.length_append, rowAt_app]
      exact hG.step hp2 (by omega)
    · simp only [List.length_append, List.length_cons, List.length_nil]
      omega
    · rw [List.length_append]
      show 1 ≤ cur.length + 1
      omega
    · rw [List.length_append]
      rfl
end
end WR
set_option Elab.async false
set_option linter.all false
set_option maxRecDepth 100000
set_option maxHeartbeats 2000000
namespace WR
open PySem PySem.Spec PyProof.Rows L2 Evl

/-! ### _law_kids -/
def spLKids (K : PySem.W.Frag) : Sp := fun vs H Q _ => ∃ dk L ns N Lv mx, vs = [.ref dk, nV Lv, nV mx] ∧ Dk H dk L ns N ∧ N ≤ 800000000 ∧ 1 ≤ Lv ∧ Lv ≤ 8 ∧ mx ≤ 1000 ∧
  ∀ H' p rs kk, Bs H H' dk L ns (N + 41 + 4 * mx) → Kds H H' p rs kk → Gen Lv kk.length (rowAt kk) → kk.length ≤ Lv + 20 → Q (.ref p) H'
abbrev nLKids : List Str := ["_law_deck_here", "_law_leaves", "_law_mixes", "_law_kids_here", "_law_turn"]
theorem scLKids : FnScope nLKids ["_law_deck_here", "_law_leaves", "_law_mixes"] (defScope sLKids) := ⟨rfl, rfl, rfl, by decide +kernel, rfl, by decide +kernel, by decide +kernel⟩
section
variable {P : Program} {w : World} {K : PySem.W.Frag} {mg : Str → Option Value} {base : Heap}
theorem q_tree {σ : L2.St} {H : Hp} {E : XK} {D : Ends} {tz : TS} {i Lv : Nat} {tp tl : TE} {dk L : Addr} {ns : List Int} {N : Int} (h0 : Ev tp σ H (.ref dk)) (h1 : Ev tl σ H (nV Lv)) (hD : Dk H dk L ns N) (hN : N ≤ 900000000) (hL1 : 1 ≤ Lv) (hL9 : Lv ≤ 9)
    (k : ∀ H1 p rs kk, Bs H H1 dk L ns (N + 40) → Kds H H1 p rs kk → Gen Lv kk.length (rowAt kk) → kk.length + 1 ≤ 2 * Lv → tz D (σ.set i (some (.ref p))) H1) :
    tSeq (tAsg (tCall (spTree K) [] E (tCons tp (tCons tl tNil))) (gName i)) tz D σ H :=
  h0 H (Ex.refl H) _ fun H1 e1 => h1 H1 e1 _ fun H2 e2 => ⟨dk, L, ns, N, Lv, rfl, hD.ex (e1.trans e2), hN, hL1, hL9, fun H3 p rs kk b kd g n => by
    have e := e1.trans e2
    have hdk : ∃ o, H dk = some o := by obtain ⟨a, b, n, d, _⟩ := hD; exact ⟨_, d.at_⟩
    have hLs : ∃ o, H L = some o := by obtain ⟨a, b, n, d, _⟩ := hD; exact ⟨_, d.ls⟩
    have hsub : ∀ r, H2 r = none → H r = none := fun r h => fresh_back e h
    refine k H3 p rs kk ⟨fun a o h => ?_, b.deck, hdk, hLs⟩ ⟨kd.kd, hsub _ kd.bp, fun r hr => hsub _ (kd.br r hr)⟩ g n
    refine b.ex a o ?_
    by_cases z : a = dk
    · rw [z, rem_self] at h
      cases h
    · rw [rem_ne z] at h ⊢
      exact e _ _ h⟩
theorem ok_lkids {f fW fT fM : Addr} {fd fdW fdT fdM : FuncData} (F : Fun K "_law_kids" "_law_kids" sLKids f fd)
    (FW : Fun K "_law_draw" "_law_draw" sDraw fW fdW) (bW : Binds K fdW ["_law_deck_here", "_law_many"] []) (gW : mg "_law_draw" = some (.ref fW))
    (FT : Fun K "_law_tree" "_law_tree" sLTree fT fdT) (bT : Binds K fdT ["_law_deck_here", "_law_leaves"] []) (gT : mg "_law_tree" = some (.ref fT))
    (FM : Fun K "_law_mix" "_law_mix" sLMix fM fdM) (bM : Binds K fdM ["_law_deck_here", "_law_kids_here"] []) (gM : mg "_law_mix" = some (.ref fM))
    (m1 : mg "range" = none) (m3 : mg "len" = none)
    (GW : FnOk P w K mg base CX0 1 fW fdW ["_law_deck_here", "_law_many"] spDraw)
    (GT : FnOk P w K mg base CX0 3 fT fdT ["_law_deck_here", "_law_leaves"] (spTree K))
    (GM : FnOk P w K mg base CX0 3 fM fdM ["_law_deck_here", "_law_kids_here"] (spMix K)) :
    FnOk P w K mg base CX0 4 f fd ["_law_deck_here", "_law_leaves", "_law_mixes"] (spLKids K) := by
  refine F.ok scLKids (fun vs H Q E h => ?_) (fun cdv A outer s H vs Q E hr h => ?_)
  · obtain ⟨dk, L, ns, N, Lv, mx, rfl, _⟩ := h
    rfl
  obtain ⟨dk, L, ns, N, Lv, mx, rfl, hD, hN, hL1, hL8, hmx, q⟩ := h
  have r1 := hr.mono (show 1 ≤ 3 by decide)
  refine ⟨_, pss_cons (ps_set (i := 3) scLKids.nd rfl (.inl rfl) (pe_call GT hr (by rfl) gT FT.kp bT .nil pass0 (pa_cons (pv 0) (pa_cons (pv 1) pa_nil))))
    (pss_cons (ps_for PassesOwn.never rfl (pi_range1 (by rfl) m1 (pa_cons (pe_call GW r1 (by rfl) gW FW.kp bW .nil pass0 (pa_cons (pv 0) (pa_cons (pe_op op_add (pv 2) pe_int) pa_nil))) pa_nil)) (pg_name (i := 4) scLKids.nd rfl (.inl rfl))
      (pss_one (ps_if (pt_cmpR op_lt (pe_op op_sub (pe_callB (r := rLenS K) call_len_seq (by rfl) m3 PySem.boot_len (pa_cons (pv 3) pa_nil)) (pv 1)) pe_int (nomark _))
        (pss_one (ps_expr (pe_call GM hr (by rfl) gM FM.kp bM .nil pass0 (pa_cons (pv 0) (pa_cons (pv 3) pa_nil))))) pss_nil)))
    (pss_one (ps_ret (pv 3)))), ?_⟩
  let S : Option V → Option V → L2.St := fun x3 x4 => [some (.ref dk), some (nV Lv), some (nV mx), x3, x4]
  refine q_tree (ev_var rfl) (ev_var rfl) hD (by omega) hL1 (by omega) fun H1 p rs kk hB hK hG hn => ?_
  show tSeq (tFor _ _ _) _ _ (S (some (.ref p)) none) H1
  refine ⟨.ref dk, rfl, (ev_op (x := nV mx) (ev_var rfl) ev_c rv_I0 : Ev _ _ _ (.int ((mx : Int) + 1))) H1 (Ex.refl H1) _ fun H2 e2 => ?_⟩
  have b2 := hB.more e2
  refine ⟨dk, L, ns, _, N + 40, rfl, b2.deck, by omega, by omega, by omega, fun r H3 a1 a2 e3 d3 => ?_⟩
  refine ⟨r, rfl, by omega, by omega, for_range (lo := 0) (n := r.toNat) (fun i σ' H' => ∃ rs kk x4, σ' = S (some (.ref p)) x4 ∧ Bs H H' dk L ns (N + 41 + 4 * i) ∧ Kds H H' p rs kk ∧ Gen Lv kk.length (rowAt kk) ∧ kk.length ≤ Lv + 20)
    ⟨rs, kk, none, rfl, (b2.draw e3 d3).wk (by omega), (hK.ex e2).draw b2 e3, hG, by omega⟩ (fun i σ' H' hi hP => ?_) fun σ' H' hP => ?_⟩
  · obtain ⟨rs, kk, x4, rfl, hB, hK, hG, hn⟩ := hP
    refine s_if (b := decide (((kk.length : Int) - (Lv : Int)) < 19)) (et_test (ev_op (x := .int ((kk.length : Int) - (Lv : Int))) (ev_op (x := nV kk.length) (y := nV Lv) (ev_is (ev_len (K := K) (ev_var rfl) (sq_of hK.kd.at_)) (by rw [List.length_map, hK.kd.len]; rfl)) (ev_var rfl) rv_I0) ev_c rv_I0)) (fun hb H4 e4 => ?_) fun hb H4 e4 => ?_
    · have hb := of_decide_eq_true hb
      refine ⟨.ref dk, rfl, .ref p, rfl, dk, p, H, L, ns, _, rs, kk, Lv, rfl, hB.more e4, by omega, hK.ex e4, hG, hL8, by omega, fun H5 rs' kk' b5 k5 g5 n5 => ?_⟩
      exact ⟨rs', kk', _, rfl, b5.wk (by omega), k5, g5, by omega⟩
    · exact ⟨rs, kk, _, rfl, (hB.more e4).wk (by omega), hK.ex e4, hG, hn⟩
  · obtain ⟨rs, kk, x4, rfl, hB, hK, hG, hn⟩ := hP
    refine s_ret (v := .ref p) (ev_var rfl) fun H4 e4 => ?_
    exact q H4 p rs kk ((hB.more e4).wk (by omega)) (hK.ex e4) hG hn
end
end WR
set_option Elab.async false
set_option linter.all false
set_option maxRecDepth 100000
set_option maxHeartbeats 2000000
namespace WR
open PySem PySem.Spec PyProof.Rows L2 Evl

/-! ### _law_numbered -/
/-- the place of a kind in the order of numbers -/
def plc (k : Nat) : List Nat → Nat
  | [] => 0
  | x :: r => if x = k then 0 else plc k r + 1
theorem plc_lt {k : Nat} : ∀ {od : List Nat}, k ∈ od → plc k od < od.length
  | x :: r, h => by
    show (if x = k then 0 else plc k r + 1) < r.length + 1
    by_cases e : x = k
    · rw [if_pos e]
      omega
    · rw [if_neg e]
      have := plc_lt (k := k) (od := r) (by
        rcases List.mem_cons.mp h with z | z
        · exact absurd z.symm e
        · exact z)
      omega
theorem plc_app {k : Nat} {more : List Nat} : ∀ {od : List Nat}, k ∈ od → plc k (od ++ more) = plc k od
  | x :: r, h => by
    show (if x = k then 0 else plc k (r ++ more) + 1) = if x = k then 0 else plc k r + 1
    by_cases e : x = k
    · rw [if_pos e, if_pos e]
    · rw [if_neg e, if_neg e, plc_app (od := r) (by
        rcases List.mem_cons.mp h with z | z
        · exact absurd z.symm e
        · exact z)]
theorem plc_get {k : Nat} : ∀ {od : List Nat}, k ∈ od → od[plc k od]? = some k
  | x :: r, h => by
    show (x :: r)[if x = k then 0 else plc k r + 1]? = _
    by_cases e : x = k
    · rw [if_pos e, e]
      rfl
    · rw [if_neg e]
      exact plc_get (od := r) (by
        rcases List.mem_cons.mp h with z | z
        · exact absurd z.symm e
        · exact z)
theorem plc_at {k j : Nat} : ∀ {od : List Nat}, od.Nodup → od[j]? = some k → plc k od = j
  | od, hd, h => by
    have hm := List.mem_of_getElem? h
    have h3 := List.getElem?_eq_some_iff.mp (plc_get hm)
    have h4 := List.getElem?_eq_some_iff.mp h
    obtain ⟨a1, a2⟩ := h3
    obtain ⟨b1, b2⟩ := h4
    exact (List.getElem_inj hd).mp (a2.trans b2.symm)
def dNs : Nat → List Nat → List (Key × V)
  | _, [] => []
  | i, k :: r => (Sum.inl (k : Int), nV i) :: dNs (i + 1) r
theorem dNs_len : ∀ {i : Nat} {od : List Nat}, (dNs i od).length = od.length
  | _, [] => rfl
  | i, k :: r => by
    show (dNs (i + 1) r).length + 1 = r.length + 1
    rw [dNs_len]
theorem dNs_val {k : Nat} : ∀ {i : Nat} {od : List Nat}, valV (dNs i od) (Sum.inl (k : Int)) = if k ∈ od then some (nV (i + plc k od)) else none
  | _, [] => rfl
  | i, x :: r => by
    by_cases e : x = k
    · subst e
      rw [if_pos (List.mem_cons_self ..)]
      show valV ((Sum.inl (x : Int), nV i) :: dNs (i + 1) r) _ = some (nV (i + if x = x then 0 else _))
      rw [if_pos rfl]
      exact valV_pos rfl
    · have hn : ¬ ((Sum.inl (x : Int) : Key) = Sum.inl (k : Int)) := fun z => e (by
        have := Sum.inl.inj z
        omega)
      show valV ((Sum.inl (x : Int), nV i) :: dNs (i + 1) r) _ = if k ∈ x :: r then some (nV (i + if x = k then 0 else plc k r + 1)) else none
      rw [valV_neg hn, dNs_val, if_neg e]
      have : (k ∈ x :: r) ↔ k ∈ r := by simp [Ne.symm e]
      simp only [this]
      rw [show i + 1 + plc k r = i + (plc k r + 1) by omega]
theorem dNs_app {k : Nat} : ∀ {i : Nat} {od : List Nat}, dNs i (od ++ [k]) = dNs i od ++ [(Sum.inl (k : Int), nV (i + od.length))]
  | i, [] => rfl
  | i, x :: r => by
    show (Sum.inl (x : Int), nV i) :: dNs (i + 1) (r ++ [k]) = (Sum.inl (x : Int), nV i) :: (dNs (i + 1) r ++ [(Sum.inl (k : Int), nV (i + (r.length + 1)))])
    rw [dNs_app, show i + 1 + r.length = i + (r.length + 1) by omega]
theorem dNs_put {k : Nat} {od : List Nat} (h : k ∉ od) : putK (dNs 0 od) (Sum.inl (k : Int)) (nV od.length) = dNs 0 (od ++ [k]) := by
  rw [putK_new _ (by rw [dNs_val, if_neg h]), dNs_app, Nat.zero_add]
theorem merge_put : ∀ {more : List Nat} {od : List Nat}, (od ++ more).Nodup → mergeK (dNs 0 od) (dNs od.length more) = dNs 0 (od ++ more)
  | [], od, _ => by rw [List.append_nil]; rfl
  | k :: r, od, h => by
    have hk : k ∉ od := fun z => by
      rw [List.nodup_append] at h
      exact h.2.2 k z k (List.mem_cons_self ..) rfl
    show mergeK (putK (dNs 0 od) (Sum.inl (k : Int)) (nV od.length)) (dNs (od.length + 1) r) = _
    rw [dNs_put hk]
    have e : od.length + 1 = (od ++ [k]).length := by rw [List.length_append]; rfl
    have ea : od ++ k :: r = (od ++ [k]) ++ r := by rw [List.append_assoc]; rfl
    rw [e, ea, merge_put (by rw [← ea]; exact h)]
theorem merge_nil {od : List Nat} (h : od.Nodup) : mergeK [] (dNs 0 od) = dNs 0 od := merge_put (od := []) h
/-- the kinds in the order of their numbers, children first -/
structure Ord (L n : Nat) (K : Nat → List Nat) (od : List Nat) : Prop where
  nd : od.Nodup
  lt : ∀ k ∈ od, k < n
  lf : ∀ k, k < L → od[k]? = some k
  len : L ≤ od.length
  dn : ∀ u c, u ∈ od → c ∈ K u → c ∈ od ∧ plc c od < plc u od
theorem Ord.leaf {L n : Nat} {K : Nat → List Nat} {od : List Nat} (o : Ord L n K od) {k : Nat} (h : k < L) : k ∈ od := List.mem_of_getElem? (o.lf k h)
theorem Ord.more {L n x : Nat} {K : Nat → List Nat} {od : List Nat} (o : Ord L n K od) (hx : x ∉ od) (hn : x < n) (hc : ∀ c ∈ K x, c ∈ od) : Ord L n K (od ++ [x]) := by
  have hxp : plc x (od ++ [x]) = od.length := by
    refine plc_at ?_ ?_
    · rw [List.nodup_append]
      exact ⟨o.nd, by simp, fun a ha b hb z => hx (by rw [List.mem_singleton.mp hb] at z; exact z ▸ ha)⟩
    · rw [List.getElem?_append_right (Nat.le_refl _), Nat.sub_self]
      rfl
  refine ⟨?_, fun k hk => ?_, fun k hk => ?_, by rw [List.length_append]; have := o.len; omega, fun u c hu h => ?_⟩
  · rw [List.nodup_append]
    exact ⟨o.nd, by simp, fun a ha b hb z => hx (by rw [List.mem_singleton.mp hb] at z; exact z ▸ ha)⟩
  · rcases List.mem_append.mp hk with h | h
    · exact o.lt k h
    · rw [List.mem_singleton.mp h]
      exact hn
  · rw [List.getElem?_append_left (by have := o.len; omega)]
    exact o.lf k hk
  · rcases List.mem_append.mp hu with h1 | h1
    · obtain ⟨a, b⟩ := o.dn u c h1 h
      exact ⟨List.mem_append_left _ a, by rw [plc_app a, plc_app h1]; exact b⟩
    · rw [List.mem_singleton.mp h1] at h ⊢
      have a := hc c h
      exact ⟨List.mem_append_left _ a, by rw [plc_app a, hxp]; exact plc_lt a⟩
/-- while kinds are left, one of them is ready -/
theorem ready {L n : Nat} {K : Nat → List Nat} {x : Nat} (g : GenX L n K x) {od left : List Nat} (hne : left ≠ []) (hl : ∀ k, k < n → k ∈ od ∨ k ∈ left) : ∃ k ∈ left, ∀ c ∈ K k, c ∈ od := by
  obtain ⟨r, hr⟩ := g.rk
  have key : ∀ m, ∀ k ∈ left, r k < m → ∃ k ∈ left, ∀ c ∈ K k, c ∈ od := fun m => by
    induction m with
    | zero => exact fun k _ h => absurd h (Nat.not_lt_zero _)
    | succ m ih =>
      intro k hk hm
      by_cases z : ∀ c ∈ K k, c ∈ od
      · exact ⟨k, hk, z⟩
      · obtain ⟨c, hc⟩ := Classical.not_forall.mp z
        obtain ⟨h1, h2⟩ := Classical.not_imp.mp hc
        rcases hl c (g.lt k c h1) with h | h
        · exact absurd h h2
        · exact ih c h (by have := hr k c h1; omega)
  cases left with
  | nil => exact absurd rfl hne
  | cons k l => exact key (r k + 1) k (List.mem_cons_self ..) (Nat.lt_succ_self _)
/-- the items of the web that is told -/
def itemOf (K : Nat → List Nat) (od : List Nat) (u : Nat) : List Nat := (sortI ((K u).map fun c => ((plc c od : Nat) : Int))).map Int.toNat
/-- a web that is drawn -/
structure Drawn (L : Nat) (inner : List (List Nat)) : Prop where
  ex : ∃ kk od, Gen L kk.length (rowAt kk) ∧ kk.length ≤ L + 20 ∧ Ord L kk.length (rowAt kk) od ∧ od.length = kk.length ∧ inner = (od.drop L).map (itemOf (rowAt kk) od)
/-- the same, the children that were numbered told -/
def NumD (kk : List (List Nat)) (L : Nat) (inner : List (List Nat)) : Prop := ∃ od, Gen L kk.length (rowAt kk) ∧ kk.length ≤ L + 20 ∧ Ord L kk.length (rowAt kk) od ∧ od.length = kk.length ∧ inner = (od.drop L).map (itemOf (rowAt kk) od)
theorem NumD.drawn {kk : List (List Nat)} {L : Nat} {inner : List (List Nat)} (h : NumD kk L inner) : Drawn L inner := by
  obtain ⟨od, h⟩ := h
  exact ⟨kk, od, h⟩
def spNumb (K : PySem.W.Frag) : Sp := fun vs H Q _ => ∃ dk p B L ns N rs kk Lv, vs = [.ref dk, .ref p, nV Lv] ∧ Bs B H dk L ns N ∧ N ≤ 900000000 ∧ Kds B H p rs kk ∧ Gen Lv kk.length (rowAt kk) ∧ Lv ≤ 8 ∧ kk.length ≤ Lv + 20 ∧
  ∀ H' v inner, Bs B H' dk L ns (N + 20) → Kds B H' p rs kk → Dp K H' v (webD Lv inner) → NumD kk Lv inner → Q v H'
abbrev nNumb : List Str := ["_law_deck_here", "_law_kids_here", "_law_leaves", "_law_numbers", "_law_left", "_law_inner", "_law_kind", "_law_leaf", "_law_one_here", "_law_child"]
theorem scNumb : FnScope nNumb ["_law_deck_here", "_law_kids_here", "_law_leaves"] (defScope sNumb) := ⟨rfl, rfl, rfl, by decide +kernel, rfl, by decide +kernel, by decide +kernel⟩
theorem paired_imp {α β : Type} {F G : α → β → Prop} (h : ∀ a b, F a b → G a b) : ∀ {l₁ : List α} {l₂ : List β}, Paired F l₁ l₂ → Paired G l₁ l₂
  | _, _, .nil => .nil
  | _, _, .cons a t => .cons (h _ _ a) (paired_imp h t)
theorem rgV_lo {a b : Nat} (h : a ≤ b) : rgV (a : Int) (b : Int) = nVs ((List.range (b - a)).map (a + ·)) := by
  unfold rgV nVs
  rw [show ((b : Int) - (a : Int)).toNat = b - a by omega, List.map_map]
  refine List.map_congr_left fun i _ => ?_
  show V.int ((a : Int) + (i : Int)) = V.int ((a + i : Nat) : Int)
  congr 1
theorem nVs_int {ks : List Nat} : nVs ks = (ks.map fun (k : Nat) => (k : Int)).map V.int := by
  unfold nVs
  rw [List.map_map]
  rfl
theorem ints_erase : ∀ {l : List Nat} {j : Nat}, ((l.map fun (k : Nat) => (k : Int)).eraseIdx j).map V.int = nVs (l.eraseIdx j)
  | [], _ => by simp [nVs]
  | a :: r, 0 => by
    show (r.map fun (k : Nat) => (k : Int)).map V.int = nVs r
    rw [← nVs_int]
  | a :: r, j + 1 => by
    show V.int (a : Int) :: ((r.map fun (k : Nat) => (k : Int)).eraseIdx j).map V.int = nV a :: nVs (r.eraseIdx j)
    rw [ints_erase]
    rfl
theorem nat_ints : ∀ {l : List Int}, (∀ i ∈ l, 0 ≤ i) → (l.map Int.toNat).map natD = l.map PyData.int
  | [], _ => rfl
  | i :: l, h => by
    show PyData.int ((i.toNat : Nat) : Int) :: _ = PyData.int i :: _
    rw [Int.toNat_of_nonneg (h i (List.mem_cons_self ..)), nat_ints fun j hj => h j (List.mem_cons_of_mem _ hj)]
theorem itemOf_app {K : Nat → List Nat} {od more : List Nat} {u : Nat} (h : ∀ c ∈ K u, c ∈ od) : itemOf K (od ++ more) u = itemOf K od u := by
  unfold itemOf
  rw [List.map_congr_left (g := fun c => ((plc c od : Nat) : Int)) fun c hc => by rw [plc_app (h c hc)]]
theorem itemsD {K : Nat → List Nat} {od : List Nat} {u : Nat} : kidsD (itemOf K od u) = .tuple ((sortI ((K u).map fun c => ((plc c od : Nat) : Int))).map PyData.int) := by
  unfold kidsD itemOf
  rw [nat_ints fun i hi => ?_]
  have h := (sortI_perm _).mem_iff.mp hi
  obtain ⟨c, _, rfl⟩ := List.mem_map.mp h
  omega
theorem Bs.rem {B H : Hp} {dk L r : Addr} {ns : List Int} {N : Int} (b : Bs B H dk L ns N) (h : B r = none) : Bs B (rem H r) dk L ns N := by
  have hne := b.ne h
  have hL : L ≠ r := fun z => by
    obtain ⟨o, ho⟩ := b.bL
    rw [z, h] at ho
    cases ho
  obtain ⟨x, y, n, d, hn⟩ := b.deck
  refine ⟨fun a o ha => ?_, ⟨x, y, n, ⟨?_, ?_, d.a0, d.b0, d.n0, d.len⟩, hn⟩, b.bdk, b.bL⟩
  · have har : a ≠ r := fun z => by
      rw [z, rem_ne hne, h] at ha
      cases ha
    rw [rem_ne har]
    exact b.ex a o ha
  · rw [rem_ne (Ne.symm hne)]
    exact d.at_
  · rw [rem_ne hL]
    exact d.ls
theorem Kds.rem {B H : Hp} {p r : Addr} {rs : List Addr} {kk : List (List Nat)} (k : Kds B H p rs kk) (hr : r ∉ p :: rs) : Kds B (rem H r) p rs kk := by
  rw [List.mem_cons, not_or] at hr
  refine ⟨⟨by rw [rem_ne (Ne.symm hr.1)]; exact k.kd.at_, k.kd.len, k.kd.nd, k.kd.np, fun i r' ks h1 h2 => ?_⟩, k.bp, k.br⟩
  rw [rem_ne fun (z : r' = r) => hr.2 (z ▸ List.mem_of_getElem? h1)]
  exact k.kd.row i r' ks h1 h2
section
variable {K : PySem.W.Frag} {σ : L2.St} {H H' : Hp} {ta tb te tl td ty : TE} {t : TT}
theorem ex_tK {a l : Addr} {xs : List V} {ys zs : List (Key × V)} (hl : H l = some (.dK ys)) (h : SqT K H a xs) : SqT K (upd H l (.dK zs)) a xs := by
  rcases h with (h | ⟨o, h⟩) | h
  · exact .inl (.inl (by rw [upd_ne (ne_of h hl (by intro z; cases z))]; exact h))
  · exact .inl (.inr ⟨o, by rw [upd_ne (ne_of h hl (by intro z; cases z))]; exact h⟩)
  · exact .inr h
mutual
/-- a dict that changes changes no such datum -/
theorem dp_updK {K : PySem.W.Frag} {H : Hp} {l : Addr} {ys zs : List (Key × V)} (hl : H l = some (.dK ys)) : ∀ {v : V} (d : PyData), nl d = true → Dp K H v d → Dp K (upd H l (.dK zs)) v d
  | _, .none, _, h => by cases h; exact .non
  | _, .bool _, _, h => by cases h; exact .bl _
  | _, .int _, _, h => by cases h; exact .int _
  | _, .str _, _, h => by cases h; exact .str _
  | _, .list ds, n, h => by cases n
  | _, .tuple ds, n, h => by
    cases h with
    | tup a b => exact .tup (ex_tK hl a) (dpAll_updK hl ds n b)
  | _, .dict _, _, h => by cases h
theorem dpAll_updK {K : PySem.W.Frag} {H : Hp} {l : Addr} {ys zs : List (Key × V)} (hl : H l = some (.dK ys)) : ∀ {vs : List V} (ds : List PyData), nlAll ds = true → DpAll K H vs ds → DpAll K (upd H l (.dK zs)) vs ds
  | _, [], _, h => by cases h; exact .nil
  | _, d :: ds, n, h => by
    have n' : (nl d && nlAll ds) = true := n
    rw [Bool.and_eq_true] at n'
    cases h with
    | cons a b => exact .cons (dp_updK hl d n'.1 a) (dpAll_updK hl ds n'.2 b)
end
/-- what a draw leaves as it is -/
theorem dp_draw {v : V} {dk L : Addr} {ns : List Int} {N M : Int} {d : PyData} (hD : Dk H dk L ns N) (hD' : Dk H' dk L ns M) (e : Ex (rem H dk) H') (n : nl d = true) (h : Dp K H v d) : Dp K H' v d := by
  obtain ⟨a, b, c, g, _⟩ := hD
  obtain ⟨a', b', c', g', _⟩ := hD'
  have q := dp_updL (zs := [.ref L, .int a', .int b', .int c']) g.at_ d n h
  refine dp_ex (fun x o hx => ?_) d q
  by_cases z : x = dk
  · subst z
    rw [upd_same] at hx
    rw [← hx]
    exact g'.at_
  · rw [upd_ne z] at hx
    exact e x o (by rw [rem_ne z]; exact hx)
theorem dpAll_draw {vs : List V} {dk L : Addr} {ns : List Int} {N M : Int} {ds : List PyData} (hD : Dk H dk L ns N) (hD' : Dk H' dk L ns M) (e : Ex (rem H dk) H') (n : nlAll ds = true) (h : DpAll K H vs ds) : DpAll K H' vs ds := by
  obtain ⟨a, b, c, g, _⟩ := hD
  obtain ⟨a', b', c', g', _⟩ := hD'
  have q := dpAll_updL (zs := [.ref L, .int a', .int b', .int c']) g.at_ ds n h
  refine dpAll_ex (fun x o hx => ?_) ds q
  by_cases z : x = dk
  · subst z
    rw [upd_same] at hx
    rw [← hx]
    exact g'.at_
  · rw [upd_ne z] at hx
    exact e x o (by rw [rem_ne z]; exact hx)
theorem nl_kidsD (ks : List Nat) : nl (kidsD ks) = true := by
  show nlAll (ks.map natD) = true
  exact nlAll_mem fun d hd => by
    obtain ⟨k, _, rfl⟩ := List.mem_map.mp hd
    rfl
theorem nl_kidsDs (l : List (List Nat)) : nlAll (l.map kidsD) = true := nlAll_mem fun d hd => by
  obtain ⟨k, _, rfl⟩ := List.mem_map.mp hd
  exact nl_kidsD k
theorem fm_nats {f : PyData → Option PyData} {g : Nat → Int} : ∀ {ks : List Nat}, (∀ c ∈ ks, f (natD c) = some (.int (g c))) → (natDs ks).filterMap f = (ks.map g).map PyData.int
  | [], _ => rfl
  | c :: r, h => by
    show (natD c :: natDs r).filterMap f = .int (g c) :: (r.map g).map PyData.int
    rw [List.filterMap_cons, h c (List.mem_cons_self ..), fm_nats fun x hx => h x (List.mem_cons_of_mem _ hx)]
theorem el_natLcC {j : Nat} {vs : List Nat} {a : Addr} {ks : List Nat} (g : Nat → Bool) (h : Ev tl σ H (.ref a)) (hx : SqL K H a (nVs ks)) (hz : ks.length ≤ 40000) (hw : ∀ x, wipe ((wipe σ vs).set j (some x)) vs = wipe σ vs) (hj : j < (wipe σ vs).length)
    (ht : ∀ k H1, Ex H H1 → k ∈ ks → EvT t ((wipe σ vs).set j (some (nV k))) H1 (g k)) : EvL (tLc (iList K tl) (gName j) t (tC (.int 1)) vs) σ H (nVs ((ks.filter g).map fun _ => 1)) := by
  have q := el_lcL (K := K) (xs := nVs ks) (σ := σ) (H := H) (t := t) (te := tC (.int 1)) (vs := vs) (j := j) (fun i => g (ks.getD i 0)) (fun _ => .int 1) h hx (by unfold nVs; rw [List.length_map]; exact hz) hw (fun i x H1 e hi => by
    obtain ⟨k, _, rfl, h1, hm⟩ := nVs_get hi
    rw [h1]
    exact ht k H1 e hm) (fun i x H1 e hi _ => ev_c)
  have e : (nVs ks).length = ks.length := by unfold nVs; rw [List.length_map]
  rw [e] at q
  have e2 : given ks.length (fun i => g (ks.getD i 0)) (fun _ => V.int 1) = nVs ((ks.filter g).map fun _ => 1) := by
    have e3 : given ks.length (fun i => g (ks.getD i 0)) (fun _ => V.int 1) = (given ks.length (fun i => g (ks.getD i 0)) (fun i => nV (ks.getD i 0))).map fun _ => V.int 1 := by
      unfold given
      rw [List.map_map]
      rfl
    rw [e3, given_nat]
    unfold nVs
    rw [List.map_map, List.map_map]
    rfl
  rw [e2] at q
  exact q
theorem ev_dgetK {d : Addr} {kvs : List (Key × V)} {k : Int} {v : V} (hd : Ev td σ H (.ref d)) (hk : Ev ty σ H (.int k)) (h : H d = some (.dK kvs)) (hv : valV kvs (Sum.inl k) = some v) : Ev (tDGet td ty) σ H v := fun H1 e Q q =>
  hd H1 e _ fun H2 e2 => hk H2 (e.trans e2) _ fun H3 e3 => ⟨d, v, rfl, by rw [← hv]; exact DGet.k (k := Sum.inl k) (((e.trans e2).trans e3) _ _ h), q H3 (e2.trans e3)⟩
end
section
variable {P : Program} {w : World} {K : PySem.W.Frag} {mg : Str → Option Value} {base : Heap}
abbrev scIn : Scope := { kind := ScopeKind.function, names := [(Str.ofString ".0", NameKind.local), (Str.ofString "_law_one_here", NameKind.local), (Str.ofString "_law_kids_here", NameKind.cell), (Str.ofString "_law_numbers", NameKind.cell)], isGenerator := false, isCoroutine := false, more := [] }
abbrev tPairs : TE := tLc (iRng1 (tCons (tVar 2) tNil)) (gName 7) tYes (tTup (tCons (tVar 7) (tCons (tVar 7) tNil))) [7]
abbrev tWait (K : PySem.W.Frag) : TE := tLc (iList K (tOp (rIxL K) (tVar 1) (tVar 8))) (gName 9) (tB (tDNotIn (tVar 9) (tVar 3))) (tC (.int 1)) [9]
abbrev tReady (K : PySem.W.Frag) : TE := tLc (iList K (tVar 4)) (gName 8) (tTest (tOp (rEqD K) (tWait K) (tLst tNil))) (tVar 8) [8]
abbrev tItem (K : PySem.W.Frag) : TE := tLc (iList K (tOp (rIxL K) (tVar 1) (tVar 6))) (gName 9) tYes (tDGet (tVar 3) (tVar 9)) [9]
theorem ok_numb {f fO : Addr} {fd fdO : FuncData} (F : Fun K "_law_numbered" "_law_numbered" sNumb f fd)
    (FO : Fun K "_law_one" "_law_one" sOne fO fdO) (bO : Binds K fdO ["_law_deck_here", "_law_items"] []) (gO : mg "_law_one" = some (.ref fO))
    (m1 : mg "range" = none) (m2 : mg "list" = none) (m3 : mg "len" = none) (m4 : mg "dict" = none) (m5 : mg "tuple" = none) (m6 : mg "sorted" = none)
    (GO : FnOk P w K mg base CX0 2 fO fdO ["_law_deck_here", "_law_items"] (spOne K)) :
    FnOk P w K mg base CX0 3 f fd ["_law_deck_here", "_law_kids_here", "_law_leaves"] (spNumb K) := by
  refine F.ok scNumb (fun vs H Q E h => ?_) (fun cdv A outer s H vs Q E hr h => ?_)
  · obtain ⟨dk, p, B, L, ns, N, rs, kk, Lv, rfl, _⟩ := h
    rfl
  obtain ⟨dk, p, B, L, ns, N, rs, kk, Lv, rfl, hB, hN, hK, hG, hLv, hn, q⟩ := h
  have hu := hr.units
  apply Exists.intro
  apply And.intro
  case left =>
    refine' pss_cons (ps_asg (pe_tup (pa_cons (pe_callTy (call_dictP rfl) (by rfl) m4 (by decide +kernel) (pa_cons (pe_lc (own := [("_law_leaf", 7)]) (g := gName 7) (tt := tYes) (te := tTup (tCons (tVar 7) (tCons (tVar 7) tNil))) rfl scNumb.nd (pi_range1 (by rfl) m1 (pa_cons (pv 2) pa_nil)) (blkOk_by (N := nNumb) (sc := defScope sNumb) (by decide +kernel))
        (fun _ _ _ _ _ => pg_name (i := 7) scNumb.nd rfl (Or.inl rfl)) (fun _ _ _ _ _ => pts_nil) (fun _ _ _ _ _ => pe_tup (pa_cons (pv 7) (pa_cons (pv 7) pa_nil)))) pa_nil))
      (pa_cons (pe_listRg rfl (by rfl) m2 (prg_2 (by rfl) m1 (pv 2) (pe_callB (r := rLenS K) call_len_seq (by rfl) m3 PySem.boot_len (pa_cons (pv 1) pa_nil)))) (pa_cons (pe_lst pa_nil) pa_nil))))
      (pg_tup rfl (pgs_cons (pg_name (i := 3) scNumb.nd rfl (.inr rfl)) (pgs_cons (pg_name (i := 4) scNumb.nd rfl (.inl rfl)) (pgs_cons (pg_name (i := 5) scNumb.nd rfl (.inl rfl)) pgs_nil))))) ?r0
    case' r0 => skip
    refine' pss_cons (ps_while PassesOwn.never (pt_cmpR (op_neD hu) (pv 4) (pe_lst pa_nil) (nomark _)) ?wb) ?r1
    case' wb =>
      refine' pss_cons (ps_set (i := 6) scNumb.nd rfl (.inl rfl) (pe_call GO hr (by rfl) gO FO.kp bO .nil pass0 (pa_cons (pv 0) (pa_cons
        (pe_lc (own := [("_law_one_here", 8)]) (g := gName 8) (tt := tTest (tOp (rEqD K) (tWait K) (tLst tNil))) (te := tVar 8) rfl scNumb.nd (pi_list (pv 4)) (blkOk_by (N := nNumb) (sc := defScope sNumb) (by decide +kernel))
          (fun _ _ _ _ _ => pg_name (i := 8) scNumb.nd rfl (Or.inl rfl)) (fun _ _ _ _ _ => pts_one (pt_cmpR (op_eqD hu)
            (pe_lc (own := [("_law_child", 9)]) (g := gName 9) (tt := tB (tDNotIn (tVar 9) (tVar 3))) (te := tC (.int 1)) rfl scNumb.nd (pi_list (pe_ix (r := rIxL K) ix_list (pv 1) (pv 8) (fun _ _ => rfl))) (blkOk_by (N := nNumb) (sc := scIn) (by decide +kernel))
              (fun _ _ _ _ _ => pg_name (i := 9) scNumb.nd rfl (Or.inl rfl)) (fun _ _ _ _ _ => pts_one (pt_cmp (pc_dnotin (hu_of hr) (pv 9) (pv 3)))) (fun _ _ _ _ _ => pe_int)) (pe_lst pa_nil) (nomark _))) (fun _ _ _ _ _ => pv 8)) pa_nil)))) ?w1
      case' w1 => skip
      refine' pss_cons (ps_expr (pe_bm PySem.F.plainAttrs_list PySem.F.slot_list_remove PySem.F.type_list_remove mt_remove (pv 4) (pa_cons (pv 6) pa_nil))) ?w2
      case' w2 => skip
      refine' pss_cons (ps_dput (hu_of hr) (pv 3) (pv 6) (pe_op op_add (pv 2) (pe_callB (r := rLenS K) call_len_seq (by rfl) m3 PySem.boot_len (pa_cons (pv 5) pa_nil))) rfl) ?w3
      case' w3 => skip
      exact pss_one (ps_expr (pe_bm PySem.F.plainAttrs_list PySem.F.slot_list_append PySem.F.type_list_append mt_append (pv 5) (pa_cons (pe_callTy call_tuple_of (by rfl) m5 (by decide +kernel) (pa_cons (pe_callB cr_sortedA (by rfl) m6 (by decide +kernel) (pa_cons
        (pe_lc (own := [("_law_child", 9)]) (g := gName 9) (tt := tYes) (te := tDGet (tVar 3) (tVar 9)) rfl scNumb.nd (pi_list (pe_ix (r := rIxL K) ix_list (pv 1) (pv 6) (fun _ _ => rfl))) (blkOk_by (N := nNumb) (sc := defScope sNumb) (by decide +kernel))
          (fun _ _ _ _ _ => pg_name (i := 9) scNumb.nd rfl (Or.inl rfl)) (fun _ _ _ _ _ => pts_nil) (fun _ _ _ _ _ => pe_dget (hu_of hr) (pv 3) (pv 9) (fun _ _ => rfl))) pa_nil)) pa_nil)) pa_nil)))
    case' r1 => skip
    exact pss_one (ps_ret (pe_tup (pa_cons (pv 2) (pa_cons (pe_callTy call_tuple_of (by rfl) m5 (by decide +kernel) (pa_cons (pv 5) pa_nil)) pa_nil))))
  case right =>
    let S : Option V → Option V → Option V → Option V → L2.St := fun x3 x4 x5 x6 => [some (.ref dk), some (.ref p), some (nV Lv), x3, x4, x5, x6, none, none, none]
    have hln := hG.ln
    refine ⟨nV Lv, rfl, (Lv : Int), rfl, by omega, by omega, fun D hD0 => ?_⟩
    rw [Int.toNat_natCast]
    refine lc_range (fun i H' => Ex H H' ∧ ∃ ps : List Addr, ps.length = i ∧ H' D = some (.lst (ps.map V.ref)) ∧ Paired (fun (x : Addr) (kv : Key × V) => H' x = some (.tup [kV kv.1, kv.2])) ps (dNs 0 (List.range i)))
      ⟨Ex.new hD0, [], rfl, upd_same, .nil⟩ (fun i H' hi hP => ?_) fun H' hP => ?_
    · obtain ⟨e, ps, hlen, hps, hpr⟩ := hP
      rw [Int.zero_add]
      refine ⟨rfl, ?_⟩
      refine yes_ ?_
      refine ⟨nV i, rfl, nV i, rfl, by show 2 ≤ sizeLine; decide, fun T hT => ?_⟩
      have hTD : D ≠ T := ne_of_none hps hT
      refine ⟨ps.map V.ref, Ex.new hT _ _ hps, sz_lt (by rw [List.length_map]; omega), Ex.mut (e.trans (Ex.new hT)) hD0, ps ++ [T], by rw [List.length_append, hlen]; rfl, by rw [upd_same, List.map_append]; rfl, ?_⟩
      rw [List.range_succ, dNs_app, List.length_range, Nat.zero_add]
      refine (paired_imp (fun a kv h => ?_) hpr).snoc ?_
      · have h1 : a ≠ D := fun z => by
          rw [z, hps] at h
          cases h
        rw [upd_ne h1]
        exact Ex.new hT _ _ h
      · rw [upd_ne (Ne.symm hTD), upd_same]
        rfl
    obtain ⟨e, ps, hlen, hps, hpr⟩ := hP
    refine ⟨D, ps, dNs 0 (List.range Lv), rfl, sq_of hps, paired_imp (fun a kv h => st_of h) hpr, fun d hd => ?_⟩
    rw [merge_nil List.nodup_range]
    have e1 := e.trans (Ex.new (o := .dK (dNs 0 (List.range Lv))) hd)
    refine ⟨nV Lv, rfl, (ev_is (ev_len (K := K) (ev_var rfl) (sq_of (hK.kd.ex e1).at_)) (by rw [List.length_map, hK.kd.len]) : Ev _ _ _ (.int (kk.length : Int))) _ (Ex.refl _) _ fun H3 e3 => ?_⟩
    refine ⟨(Lv : Int), (kk.length : Int), rfl, rfl, RgOk.of_le (by omega) (by omega) (by omega) (by omega), fun lf hlf => ⟨by show 0 ≤ sizeLine; decide, fun li hli => ⟨by show 3 ≤ sizeLine; decide, fun T hT => ?_⟩⟩⟩
    refine ⟨T, _, rfl, st_of upd_same, rfl, _, _, rfl, _, _, rfl, _, _, rfl, rfl, ?_⟩
    rw [rgV_lo hln] at hli hT ⊢
    have hdH : H d = none := fresh_back e hd
    have e13 := e1.trans e3
    have hlfH : H lf = none := fresh_back e13 hlf
    have e4 := e13.trans (Ex.new (o := .lst (nVs ((List.range (kk.length - Lv)).map (Lv + ·)))) hlf)
    have hliH : H li = none := fresh_back e4 hli
    have e5 := e4.trans (Ex.new (o := .lst []) hli)
    have e6 := e5.trans (Ex.new (o := .tup [.ref d, .ref lf, .ref li]) hT)
    have h3d := e3 _ _ (show upd H' d (.dK (dNs 0 (List.range Lv))) d = some (.dK (dNs 0 (List.range Lv))) from upd_same)
    have h4d := Ex.new (o := .lst (nVs ((List.range (kk.length - Lv)).map (Lv + ·)))) hlf _ _ h3d
    have h4l : upd H3 lf (.lst (nVs ((List.range (kk.length - Lv)).map (Lv + ·)))) lf = some (.lst (nVs ((List.range (kk.length - Lv)).map (Lv + ·)))) := upd_same
    have hdl : d ≠ lf := ne_of_none h3d hlf
    have hdi : d ≠ li := ne_of_none h4d hli
    have hli' : lf ≠ li := ne_of_none h4l hli
    have h6d := Ex.new (o := .tup [.ref d, .ref lf, .ref li]) hT _ _ (Ex.new (o := .lst []) hli _ _ h4d)
    have h6l := Ex.new (o := .tup [.ref d, .ref lf, .ref li]) hT _ _ (Ex.new (o := .lst []) hli _ _ h4l)
    have h6i := Ex.new (o := .tup [.ref d, .ref lf, .ref li]) hT _ _ (show upd (upd H3 lf (.lst (nVs ((List.range (kk.length - Lv)).map (Lv + ·))))) li (.lst []) li = some (.lst []) from upd_same)
    show tSeq (tWhile _ _) _ _ (S (some (.ref d)) (some (.ref lf)) (some (.ref li)) none) _
    generalize upd (upd (upd H3 lf (.lst (nVs ((List.range (kk.length - Lv)).map (Lv + ·))))) li (.lst [])) T (.tup [.ref d, .ref lf, .ref li]) = H6 at e6 h6d h6l h6i ⊢
    have hdn := hK.kd.fresh hdH
    have hlfn := hK.kd.fresh hlfH
    have hlin := hK.kd.fresh hliH
    have hdB := hB.new hdH
    have hlfB := hB.new hlfH
    have hliB := hB.new hliH
    have hB6 := hB.more e6
    have hK6 := hK.ex e6
    clear hps hpr hd e1 h3d e3 hlf hli hT e13 e4 e5 e6 h4d h4l hlen e hD0
    let Inv (m : Nat) (σ' : L2.St) (H' : Hp) : Prop := ∃ (od left : List Nat) (x6 : Option V) (M : Int), σ' = S (some (.ref d)) (some (.ref lf)) (some (.ref li)) x6 ∧ Bs B H' dk L ns M ∧ M + m ≤ N + 20 ∧ Kds B H' p rs kk ∧
      H' d = some (.dK (dNs 0 od)) ∧ H' lf = some (.lst (nVs left)) ∧ LD K H' li (((od.drop Lv).map (itemOf (rowAt kk) od)).map kidsD) ∧ Ord Lv kk.length (rowAt kk) od ∧ left.Nodup ∧ (∀ k, k < kk.length → k ∈ od ∨ k ∈ left) ∧ (∀ k ∈ left, k ∉ od ∧ k < kk.length) ∧
      od.length + left.length = kk.length ∧ m = left.length
    refine q_while Inv (kk.length - Lv) ⟨List.range Lv, (List.range (kk.length - Lv)).map (Lv + ·), none, N, rfl, hB6, by omega, hK6, h6d, h6l, ⟨[], h6i, ?_⟩, ?_, ?_, ?_, ?_, ?_, ?_⟩ fun m σ' H' hI => ?_
    · rw [List.drop_of_length_le (by rw [List.length_range]; omega)]
      exact .nil
    · refine ⟨List.nodup_range, fun k hk => ?_, fun k hk => ?_, by rw [List.length_range]; omega, fun u c hu hc => ?_⟩
      · have := List.mem_range.mp hk
        omega
      · rw [List.getElem?_range hk]
      · rw [hG.leaf u (List.mem_range.mp hu)] at hc
        cases hc
    · refine List.Pairwise.map _ (fun a b h => ?_) List.nodup_range
      show Lv + a ≠ Lv + b
      intro z
      exact h (by omega)
    · intro k hk
      by_cases z : k < Lv
      · exact .inl (List.mem_range.mpr z)
      · refine .inr (List.mem_map.mpr ⟨k - Lv, List.mem_range.mpr (by omega), by omega⟩)
    · intro k hk
      obtain ⟨i, hi, rfl⟩ := List.mem_map.mp hk
      have := List.mem_range.mp hi
      refine ⟨fun z => ?_, by omega⟩
      have := List.mem_range.mp z
      omega
    · rw [List.length_map, List.length_range, List.length_range]
      omega
    · rw [List.length_map, List.length_range]
    obtain ⟨od, left, x6, M, rfl, hB, hM, hK, hd, hl, hL, hO, hnd, hall, hleft, hlen, hm⟩ := hI
    have hOl := hO.len
    refine ⟨!left.isEmpty, et_neNil (ev_var rfl) hl, fun hb H1 e1 => ?_, fun hb H1 e1 => ?_⟩
    rotate_left
    · have he : left = [] := by
        cases left with
        | nil => rfl
        | cons _ _ => cases hb
      subst he
      refine s_retD (d := webD Lv ((od.drop Lv).map (itemOf (rowAt kk) od))) (ed_tup (eda_cons (ed_i (ev_var rfl)) (eda_cons (ed_tupL (ed_var rfl (hL.ex e1).dp)) eda_nil)) (by simp)) fun v H2 e2 hv => ?_
      exact q H2 v _ (((hB.more e1).more e2).wk (by omega)) ((hK.ex e1).ex e2) hv ⟨od, hG, hn, hO, by simpa using hlen, rfl⟩
    have hne : left ≠ [] := fun z => by
      rw [z] at hb
      cases hb
    replace hB := hB.more e1
    replace hK := hK.ex e1
    replace hd := e1 _ _ hd
    replace hl := e1 _ _ hl
    replace hL := hL.ex e1
    clear e1
    refine ⟨fun σ2 H2 => ∃ m', m' < m ∧ Inv m' σ2 H2, fun σ2 H2 h => h, ?_⟩
    have hnvl : (nVs left).length = left.length := by unfold nVs; rw [List.length_map]
    -- a kind that is ready
    have hR : EvL (tReady K) (S (some (.ref d)) (some (.ref lf)) (some (.ref li)) x6) H1 (nVs (left.filter fun k => (rowAt kk k).all fun c => decide (c ∈ od))) := by
      refine el_natLc _ (ev_var rfl) (sq_of hl) (by omega) (fun _ => rfl) (by show 8 < 10; decide) fun k H2 e2 hk => ?_
      have hkn := (hleft k hk).2
      obtain ⟨r, hr, hrow⟩ := (hK.ex e2).kd.get (rowAt_get hkn)
      have hz := nodup_len _ _ (hG.nd k) (fun c hc => hG.lt k c hc)
      have hW := el_natLcC (K := K) (σ := (wipe (S (some (.ref d)) (some (.ref lf)) (some (.ref li)) x6) [8]).set 8 (some (nV k))) (H := H2) (j := 9) (vs := [9]) (t := tB (tDNotIn (tVar 9) (tVar 3))) (fun c => decide (c ∉ od))
        (ev_row (K := K) (ta := tVar 1) (tb := tVar 8) (hK.ex e2).kd hr (ev_var rfl) (ev_var rfl)) (sq_of hrow) (by omega) (fun _ => rfl) (by show 9 < 10; decide) fun c H3 e3 hc => by
          have q1 := et_dnotin (σ := (wipe ((wipe (S (some (.ref d)) (some (.ref lf)) (some (.ref li)) x6) [8]).set 8 (some (nV k))) [9]).set 9 (some (nV c))) (H := H3) (td := tVar 3) (ty := tVar 9) (k := (c : Int)) (ev_var rfl) (ev_var rfl) (e3 _ _ (e2 _ _ hd))
          refine et_is q1 ?_
          rw [dNs_val]
          by_cases z : c ∈ od
          · rw [if_pos z, decide_eq_false (fun y => y z)]
            rfl
          · rw [if_neg z, decide_eq_true z]
            rfl
      refine et_is (et_eqNilL (K := K) hW) ?_
      generalize rowAt kk k = ks
      induction ks with
      | nil => rfl
      | cons c r ih =>
        rw [List.filter_cons, List.all_cons]
        by_cases z : c ∈ od
        · rw [decide_eq_false (fun y => y z), decide_eq_true z, if_neg Bool.false_ne_true, Bool.true_and]
          exact ih
        · rw [decide_eq_true z, decide_eq_false z, if_pos rfl, Bool.false_and]
          rfl
    refine ⟨.ref dk, rfl, hR H1 (Ex.refl H1) _ fun lr H2 hlr e2 hp2 => ?_⟩
    have b2 := hB.more e2
    obtain ⟨k0, hk0, hk0c⟩ := ready hG hne hall
    have hmem0 : k0 ∈ left.filter fun k => (rowAt kk k).all fun c => decide (c ∈ od) := by
      refine List.mem_filter.mpr ⟨hk0, ?_⟩
      rw [List.all_eq_true]
      exact fun c hc => decide_eq_true (hk0c c hc)
    have hpos := List.length_pos_of_mem hmem0
    have hfl := List.length_filter_le (fun k => (rowAt kk k).all fun c => decide (c ∈ od)) left
    have hnv2 : (nVs (left.filter fun k => (rowAt kk k).all fun c => decide (c ∈ od))).length = (left.filter fun k => (rowAt kk k).all fun c => decide (c ∈ od)).length := by unfold nVs; rw [List.length_map]
    refine ⟨dk, L, ns, M, lr, _, rfl, b2.deck, by omega, hp2, hB.ne (hB.new hlr), by omega, by omega, fun x H3 hx e3 d3 => ?_⟩
    obtain ⟨k, hk, rfl⟩ := List.mem_map.mp hx
    obtain ⟨hkl, hkc⟩ := List.mem_filter.mp hk
    rw [List.all_eq_true] at hkc
    have hkc : ∀ c ∈ rowAt kk k, c ∈ od := fun c hc => of_decide_eq_true (hkc c hc)
    obtain ⟨hkod, hkn⟩ := hleft k hkl
    have b3 := b2.draw e3 d3
    have k3 := (hK.ex e2).draw b2 e3
    have keep : ∀ {r : Addr} {o : HO}, B r = none → H1 r = some o → H3 r = some o := fun {r o} h1 h2 => e3 _ _ (by rw [rem_ne (b2.ne h1)]; exact e2 _ _ h2)
    have hd3 := keep hdB hd
    have hl3 := keep hlfB hl
    have hL3 : LD K H3 li (((od.drop Lv).map (itemOf (rowAt kk) od)).map kidsD) := by
      obtain ⟨xs, h1, h2⟩ := hL
      exact ⟨xs, keep hliB h1, dpAll_draw b2.deck d3 e3 (nl_kidsDs _) (dpAll_ex e2 _ h2)⟩
    have hkn0 := hkn
    unfold gName
    dsimp only
    show tSeq (tDrop _) _ _ (S (some (.ref d)) (some (.ref lf)) (some (.ref li)) (some (nV k))) H3
    clear hR hp2 hlr e2 b2 e3 d3 hB hK hd hl hL hx keep hnvl hnv2 hpos hfl hmem0
    -- it is left no more
    have hpl := plc_get hkl
    refine ⟨.ref lf, rfl, .inl ⟨rfl, _, sq_of hl3⟩, nV k, rfl, lf, left.map fun (k : Nat) => (k : Int), (k : Int), plc k left, rfl, rfl, by rw [← nVs_int]; exact hl3, by rw [List.getElem?_map, hpl]; rfl, fun j hj z => ?_, ?_⟩
    · rw [List.getElem?_map] at z
      obtain ⟨k', hk', e'⟩ := Option.map_eq_some_iff.mp z
      have e' : k' = k := by omega
      subst e'
      have := plc_at hnd hk'
      omega
    rw [ints_erase]
    have hperm := perm_erase hpl
    generalize hle : left.eraseIdx (plc k left) = left' at hperm ⊢
    have b4 := b3.upd (o := .lst (nVs left')) hlfB
    have k4 := k3.other (o := .lst (nVs left')) hlfn
    have hd4 : upd H3 lf (.lst (nVs left')) d = some (.dK (dNs 0 od)) := by
      rw [upd_ne hdl]
      exact hd3
    have hl4 : upd H3 lf (.lst (nVs left')) lf = some (.lst (nVs left')) := upd_same
    have hL4 : LD K (upd H3 lf (.lst (nVs left'))) li (((od.drop Lv).map (itemOf (rowAt kk) od)).map kidsD) := by
      obtain ⟨xs, h1, h2⟩ := hL3
      exact ⟨xs, by rw [upd_ne (Ne.symm hli')]; exact h1, dpAll_updL hl3 _ (nl_kidsDs _) h2⟩
    dsimp only
    show tSeq (sDPut _ _ _) _ _ (S (some (.ref d)) (some (.ref lf)) (some (.ref li)) (some (nV k))) (upd H3 lf (.lst (nVs left')))
    generalize upd H3 lf (.lst (nVs left')) = H4 at b4 k4 hd4 hl4 hL4 ⊢
    clear b3 k3 hd3 hl3 hL3
    -- its number
    have hdsl : (((od.drop Lv).map (itemOf (rowAt kk) od)).map kidsD).length = od.length - Lv := by rw [List.length_map, List.length_map, List.length_drop]
    refine q_dput (σ := S (some (.ref d)) (some (.ref lf)) (some (.ref li)) (some (nV k))) (td := tVar 3) (ty := tVar 6) (k := (k : Int)) (d := d) (v := nV od.length) ?_ (ev_var rfl) (ev_var rfl) hd4 (by rw [dNs_len]; omega) fun H5 e5 => ?_
    · obtain ⟨xs, h1, h2⟩ := hL4
      have hxl := dpAll_len h2
      refine ev_is (ev_op (x := nV Lv) (y := .int (xs.length : Int)) (ev_var rfl) (ev_len (K := K) (ev_var rfl) (sq_of h1)) rv_I0) ?_
      show V.int _ = V.int _
      congr 1
      omega
    rw [dNs_put hkod]
    have hd5 : H5 d = some (.dK (dNs 0 od)) := e5 _ _ hd4
    have b6 := (b4.more e5).upd (o := .dK (dNs 0 (od ++ [k]))) hdB
    have k6 := (k4.ex e5).other (o := .dK (dNs 0 (od ++ [k]))) hdn
    have hd6 : upd H5 d (.dK (dNs 0 (od ++ [k]))) d = some (.dK (dNs 0 (od ++ [k]))) := upd_same
    have hl6 : upd H5 d (.dK (dNs 0 (od ++ [k]))) lf = some (.lst (nVs left')) := by
      rw [upd_ne (Ne.symm hdl)]
      exact e5 _ _ hl4
    have hL6 : LD K (upd H5 d (.dK (dNs 0 (od ++ [k])))) li (((od.drop Lv).map (itemOf (rowAt kk) od)).map kidsD) := by
      obtain ⟨xs, h1, h2⟩ := hL4.ex e5
      exact ⟨xs, by rw [upd_ne (Ne.symm hdi)]; exact h1, dpAll_updK hd5 _ (nl_kidsDs _) h2⟩
    generalize upd H5 d (.dK (dNs 0 (od ++ [k]))) = H6 at b6 k6 hd6 hl6 hL6 ⊢
    clear b4 k4 hd4 hl4 hL4 hd5
    -- its item
    have hO' := hO.more hkod hkn hkc
    obtain ⟨r, hr6, hrow⟩ := k6.kd.get (rowAt_get hkn)
    have hz := nodup_len _ _ (hG.nd k) (fun c hc => hG.lt k c hc)
    have hI : EvN K (tItem K) (S (some (.ref d)) (some (.ref lf)) (some (.ref li)) (some (nV k))) H6 ((((rowAt kk k).map fun c => ((plc c (od ++ [k]) : Nat) : Int))).map PyData.int) := by
      have q1 := en_lc (K := K) (wi := iList K (tOp (rIxL K) (tVar 1) (tVar 6))) (t := tYes) (te := tDGet (tVar 3) (tVar 9)) (j := 9) (vs := [9]) (σ := S (some (.ref d)) (some (.ref lf)) (some (.ref li)) (some (nV k))) (H := H6) (ds := natDs (rowAt kk k))
        (fun x => match x with | .int i => some (.int ((plc i.toNat (od ++ [k]) : Nat) : Int)) | _ => none)
        (src_L (ed_ev (ev_row k6.kd hr6 (ev_var rfl) (ev_var rfl)) (.lst (sq_of hrow) (dpAll_nat _)))) (by unfold natDs; rw [List.length_map]; omega) (fun _ => rfl)
        (fun x v H7 e7 hx hv => by
          obtain ⟨c, hc, rfl⟩ := List.mem_map.mp hx
          exact fun H8 _ _ q => q H8 (Ex.refl H8))
        (fun x r' v H7 e7 hx hv hr' => by
          obtain ⟨c, hc, rfl⟩ := List.mem_map.mp hx
          have hr' : some (PyData.int ((plc ((c : Int)).toNat (od ++ [k]) : Nat) : Int)) = some r' := hr'
          rw [Int.toNat_natCast] at hr'
          cases hr'
          cases dp_int hv
          refine ed_i (ev_dgetK (d := d) (k := (c : Int)) (kvs := dNs 0 (od ++ [k])) (ev_var rfl) (ev_var rfl) (e7 _ _ hd6) ?_)
          rw [dNs_val, if_pos (List.mem_append_left _ (hkc c hc)), Nat.zero_add]
          rfl)
        (fun x r' hx hr' => by
          obtain ⟨c, hc, rfl⟩ := List.mem_map.mp hx
          cases hr'
          rfl)
      rw [fm_nats (g := fun c => ((plc c (od ++ [k]) : Nat) : Int)) fun c _ => rfl] at q1
      exact q1
    have hT : EvD K _ (S (some (.ref d)) (some (.ref lf)) (some (.ref li)) (some (nV k))) H6 _ := ed_tupN (en_sortedL (ed_n hI) (by rw [List.length_map]; omega))
    rw [← itemsD] at hT
    refine s_appD hL6 (ev_var rfl) hT (by omega) (nl_kidsDs _) (nl_kidsD _) fun H7 e7 hL7 => ?_
    have eR : Ex (rem H6 li) H7 := e7 _ rem_ex rem_self
    have b7 := (b6.rem hliB).more eR
    have k7 := (k6.rem hlin).ex eR
    have hd7 := eR d _ (by rw [rem_ne hdi]; exact hd6)
    have hl7 := eR lf _ (by rw [rem_ne hli']; exact hl6)
    have hpl' := hperm.length_eq
    rw [List.length_cons] at hpl'
    have hndp : (k :: left').Nodup := hperm.nodup_iff.mpr hnd
    rw [List.nodup_cons] at hndp
    refine ⟨left'.length, by omega, od ++ [k], left', _, M + 1, rfl, b7, by omega, k7, hd7, hl7, ?_, hO', hndp.2, fun x hx => ?_, fun x hx => ?_, ?_, rfl⟩
    · have eI : ((od ++ [k]).drop Lv).map (itemOf (rowAt kk) (od ++ [k])) = (od.drop Lv).map (itemOf (rowAt kk) od) ++ [itemOf (rowAt kk) (od ++ [k]) k] := by
        rw [List.drop_append_of_le_length hOl, List.map_append]
        congr 1
        refine List.map_congr_left fun u hu => itemOf_app fun c hc => (hO.dn u c (List.mem_of_mem_drop hu) hc).1
      rw [eI, List.map_append]
      exact hL7
    · rcases hall x hx with h | h
      · exact .inl (List.mem_append_left _ h)
      · rcases List.mem_cons.mp (hperm.mem_iff.mpr h) with z | z
        · exact .inl (List.mem_append_right _ (List.mem_singleton.mpr z))
        · exact .inr z
    · obtain ⟨a1, a2⟩ := hleft x (hperm.mem_iff.mp (List.mem_cons_of_mem _ hx))
      refine ⟨fun z => ?_, a2⟩
      rcases List.mem_append.mp z with z | z
      · exact a1 z
      · rw [List.mem_singleton.mp z] at hx
        exact hndp.1 hx
    · rw [List.length_append]
      show od.length + 1 + left'.length = _
      omega
end
end WR
set_option Elab.async false
set_option linter.all false
set_option maxRecDepth 100000
set_option maxHeartbeats 2000000
namespace WR
open PySem PySem.Spec PyProof.Rows L2 Evl

/-! ### _law_web -/
def spLWeb (K : PySem.W.Frag) : Sp := fun vs H Q _ => ∃ dk L ns N mo mx, vs = [.ref dk, nV mo, nV mx] ∧ Dk H dk L ns N ∧ N ≤ 700000000 ∧ 1 ≤ mo ∧ mo ≤ 8 ∧ mx ≤ 1000 ∧
  ∀ H' v Lv inner, Bs H H' dk L ns (N + 100 + 4 * mx) → 1 ≤ Lv → Lv ≤ mo → Dp K H' v (webD Lv inner) → Drawn Lv inner → Q v H'
abbrev nLWeb : List Str := ["_law_deck_here", "_law_most", "_law_mixes", "_law_leaves"]
theorem scLWeb : FnScope nLWeb ["_law_deck_here", "_law_most", "_law_mixes"] (defScope sLWeb) := ⟨rfl, rfl, rfl, by decide +kernel, rfl, by decide +kernel, by decide +kernel⟩
section
variable {P : Program} {w : World} {K : PySem.W.Frag} {mg : Str → Option Value} {base : Heap}
theorem ok_lweb {f fW fC fN : Addr} {fd fdW fdC fdN : FuncData} (F : Fun K "_law_web" "_law_web" sLWeb f fd)
    (FW : Fun K "_law_draw" "_law_draw" sDraw fW fdW) (bW : Binds K fdW ["_law_deck_here", "_law_many"] []) (gW : mg "_law_draw" = some (.ref fW))
    (FC : Fun K "_law_kids" "_law_kids" sLKids fC fdC) (bC : Binds K fdC ["_law_deck_here", "_law_leaves", "_law_mixes"] []) (gC : mg "_law_kids" = some (.ref fC))
    (FN : Fun K "_law_numbered" "_law_numbered" sNumb fN fdN) (bN : Binds K fdN ["_law_deck_here", "_law_kids_here", "_law_leaves"] []) (gN : mg "_law_numbered" = some (.ref fN))
    (GW : FnOk P w K mg base CX0 1 fW fdW ["_law_deck_here", "_law_many"] spDraw)
    (GC : FnOk P w K mg base CX0 4 fC fdC ["_law_deck_here", "_law_leaves", "_law_mixes"] (spLKids K))
    (GN : FnOk P w K mg base CX0 3 fN fdN ["_law_deck_here", "_law_kids_here", "_law_leaves"] (spNumb K)) :
    FnOk P w K mg base CX0 5 f fd ["_law_deck_here", "_law_most", "_law_mixes"] (spLWeb K) := by
  refine F.ok scLWeb (fun vs H Q E h => ?_) (fun cdv A outer s H vs Q E hr h => ?_)
  · obtain ⟨dk, L, ns, N, mo, mx, rfl, _⟩ := h
    rfl
  obtain ⟨dk, L, ns, N, mo, mx, rfl, hD, hN, hm1, hm8, hmx, q⟩ := h
  refine ⟨_, pss_cons (ps_set (i := 3) scLWeb.nd rfl (.inl rfl) (pe_op op_add pe_int (pe_call GW (hr.mono (by decide)) (by rfl) gW FW.kp bW .nil pass0 (pa_cons (pv 0) (pa_cons (pv 1) pa_nil)))))
    (pss_one (ps_ret (pe_call GN (hr.mono (by decide)) (by rfl) gN FN.kp bN .nil pass0 (pa_cons (pv 0) (pa_cons (pe_call GC (hr.mono (by decide)) (by rfl) gC FC.kp bC .nil pass0 (pa_cons (pv 0) (pa_cons (pv 3) (pa_cons (pv 2) pa_nil)))) (pa_cons (pv 3) pa_nil)))))), ?_⟩
  have hdk : ∃ o, H dk = some o := by obtain ⟨a, b, n, d, _⟩ := hD; exact ⟨_, d.at_⟩
  have hLs : ∃ o, H L = some o := by obtain ⟨a, b, n, d, _⟩ := hD; exact ⟨_, d.ls⟩
  refine q_draw (c := 1) (m := (mo : Int)) (ev_var rfl) (ev_var rfl) hD (by omega) (by omega) (by omega) fun r H1 r0 r1 e1 d1 => ?_
  obtain ⟨j, rfl⟩ : ∃ j : Nat, r = (j : Int) := ⟨r.toNat, (Int.toNat_of_nonneg r0).symm⟩
  have ej : V.int (1 + (j : Int)) = nV (j + 1) := by
    show V.int _ = V.int _
    congr 1
    omega
  rw [ej]
  refine ⟨.ref dk, rfl, .ref dk, rfl, nV (j + 1), rfl, nV mx, rfl, dk, L, ns, N + 1, j + 1, mx, rfl, d1, by omega, by omega, by omega, hmx, fun H2 p rs kk b2 k2 g2 n2 => ?_⟩
  refine ⟨nV (j + 1), rfl, dk, p, H1, L, ns, _, rs, kk, j + 1, rfl, b2, by omega, k2, g2, by omega, n2, fun H3 v inner b3 _ hv hw => ?_⟩
  exact q H3 v (j + 1) inner ⟨rem_trans e1 b3.ex, (b3.wk (by omega)).deck, hdk, hLs⟩ (by omega) (by omega) hv hw.drawn
/-- what is drawn is a raw web -/
theorem Drawn.raw {L : Nat} {inner : List (List Nat)} (h : Drawn L inner) (h1 : 1 ≤ L) (h8 : L ≤ 8) : Raw L inner := by
  obtain ⟨kk, od, hG, hn, hO, hlen, rfl⟩ := h.ex
  have hll := hO.len
  have hil : ∀ u, (itemOf (rowAt kk) od u).length ≤ 30 := fun u => by
    unfold itemOf
    rw [List.length_map, (sortI_perm _).length_eq, List.length_map]
    have := nodup_len _ _ (hG.nd u) (fun c hc => hG.lt u c hc)
    omega
  refine ⟨h1, h8, by rw [List.length_map, List.length_drop]; omega, fun j ks hj k hk => ?_, fun ks hks => ?_⟩
  · rw [List.getElem?_map] at hj
    obtain ⟨u, hu, rfl⟩ := Option.map_eq_some_iff.mp hj
    rw [List.getElem?_drop] at hu
    unfold itemOf at hk
    obtain ⟨i, hi, rfl⟩ := List.mem_map.mp hk
    obtain ⟨c, hc, rfl⟩ := List.mem_map.mp ((sortI_perm _).mem_iff.mp hi)
    rw [Int.toNat_natCast]
    have := (hO.dn u c (List.mem_of_getElem? hu) hc).2
    rw [plc_at hO.nd hu] at this
    exact this
  · obtain ⟨u, _, rfl⟩ := List.mem_map.mp hks
    exact hil u
end
end WR
set_option Elab.async false
set_option linter.all false
set_option maxRecDepth 100000
set_option maxHeartbeats 1000000
namespace WR
open PySem PySem.Spec PyProof.Rows L2 Evl

/-! ### _law_lists -/
def spLists (K : PySem.W.Frag) : Sp := fun vs H Q _ => ∃ v l inner, vs = [v] ∧ Dp K H v (webD l inner) ∧ Raw l inner ∧
  ∀ p rs H', Ex H H' → H p = none → KdAt H' p rs (List.replicate l [] ++ inner) → Q (.ref p) H'
theorem KdAt.cat {B H : Hp} {p D1 D2 : Addr} {rs1 rs2 : List Addr} {k1 k2 : List (List Nat)} (a : KdAt B D1 rs1 k1) (e : Ex B H) (b : Kds B H D2 rs2 k2) (hp : H p = none) : KdAt (upd H p (.lst (rs1.map V.ref ++ rs2.map V.ref))) p (rs1 ++ rs2) (k1 ++ k2) := by
  have en := Ex.new (o := .lst (rs1.map V.ref ++ rs2.map V.ref)) hp
  have a2 := a.ex e
  refine ⟨by rw [upd_same, List.map_append], by rw [List.length_append, List.length_append, a.len, b.kd.len], ?_, fun z => ?_, fun i r ks h1 h2 => ?_⟩
  · rw [List.nodup_append]
    refine ⟨a.nd, b.kd.nd, fun x hx y hy z => ?_⟩
    subst z
    have h0 := b.br x hy
    obtain ⟨i, hi, ei⟩ := List.mem_iff_getElem.mp hx
    have := a.row i x _ (by rw [List.getElem?_eq_getElem hi, ei]) (rowAt_get (by rw [← a.len]; exact hi))
    rw [h0] at this
    cases this
  · rcases List.mem_append.mp z with z | z
    · exact a2.fresh hp (List.mem_cons_of_mem _ z)
    · exact b.kd.fresh hp (List.mem_cons_of_mem _ z)
  · rw [List.getElem?_append] at h1 h2
    rw [a.len] at h1
    by_cases hi : i < k1.length
    · rw [if_pos hi] at h1 h2
      exact en _ _ (a2.row i r ks h1 h2)
    · rw [if_neg hi] at h1 h2
      exact en _ _ (b.kd.row _ r ks h1 h2)
end WR
set_option Elab.async false
set_option linter.all false
set_option maxRecDepth 100000
set_option maxHeartbeats 1000000
namespace WR
open PySem PySem.Spec PyProof.Rows L2 Evl
/-! ### parents, mixings, is_mixing, is_tree -/
section
variable {K : PySem.W.Frag} {σ : L2.St} {H : Hp} {ta te : TE} {t : TT} {wi : TI}
theorem et_inK {k : Nat} {ks : List Nat} (hk : Ev ta σ H (nV k)) (h : EvD K te σ H (kidsD ks)) : EvT (tTest (tOp (rIn K false) ta te)) σ H (decide (k ∈ ks)) := by
  refine et_test fun H1 e Q q => hk H1 e _ fun H2 e2 => h H2 (e.trans e2) _ fun v H3 e3 hv => ?_
  obtain ⟨a, xs, rfl, hs, hd⟩ := dp_tup hv
  have hd : DpAll K H3 xs (natDs ks) := hd
  rw [nats_of hd] at hs
  refine rv_isT (K := K) (x := nV k) hs rfl (flat_nVs ks) H3 (Ex.refl H3) Q fun H4 e4 => ?_
  rw [inV_nat]
  exact q H4 ((e2.trans e3).trans e4)
theorem fm_pick {n : Nat} {b : Nat → Bool} {f : PyData → Option PyData} (h : ∀ k : Nat, f (.int ((0 : Int) + (k : Int))) = if b k = true then some (natD k) else none) : (rngD 0 n).filterMap f = natDs ((List.range n).filter b) := by
  unfold rngD natDs
  rw [List.filterMap_map]
  generalize List.range n = l
  induction l with
  | nil => rfl
  | cons x r ih =>
    have hx : (f ∘ fun (k : Nat) => PyData.int ((0 : Int) + (k : Int))) x = if b x = true then some (natD x) else none := h x
    rw [List.filterMap_cons, List.filter_cons, hx, ih]
    cases b x with
    | true => rfl
    | false => rfl
/-- the numbers below n that .. -/
theorem en_pick {n j : Nat} {vs : List Nat} (b : Nat → Bool) (h : SrcS K wi σ H (rngD 0 n)) (hn : n ≤ 40000) (hw : ∀ x, wipe ((wipe σ vs).set j (some x)) vs = wipe σ vs) (hj : j < (wipe σ vs).length)
    (ht : ∀ k H1, Ex H H1 → k < n → EvT t ((wipe σ vs).set j (some (nV k))) H1 (b k)) : EvN K (tLc wi (gName j) t (tVar j) vs) σ H (natDs ((List.range n).filter b)) := by
  let f : PyData → Option PyData := fun d => match d with | .int i => if b i.toNat = true then some (.int i) else none | _ => none
  have hf : ∀ k : Nat, f (.int ((0 : Int) + (k : Int))) = if b k = true then some (natD k) else none := fun k => by
    show (if b ((0 : Int) + (k : Int)).toNat = true then some (PyData.int ((0 : Int) + (k : Int))) else none) = _
    rw [show ((0 : Int) + (k : Int)).toNat = k by omega, show (0 : Int) + (k : Int) = (k : Int) by omega]
    rfl
  have q := en_lc (K := K) (t := t) (te := tVar j) (j := j) (vs := vs) (ds := rngD 0 n) f h.src (by rw [rngD_len]; exact hn) hw (fun d v H1 e hd hv => by
      obtain ⟨i, hi, rfl⟩ := List.mem_map.mp hd
      rw [hf]
      rw [show (0 : Int) + (i : Int) = (i : Int) by omega] at hv
      cases dp_int hv
      refine et_is (ht i H1 e (List.mem_range.mp hi)) ?_
      cases b i with
      | true => rfl
      | false => rfl) (fun d r v H1 e hd hv hr => by
      obtain ⟨i, hi, rfl⟩ := List.mem_map.mp hd
      rw [hf] at hr
      split at hr
      · cases hr
        rw [show (0 : Int) + (i : Int) = (i : Int) by omega] at hv
        cases dp_int hv
        exact ed_i (ev_var (by rw [List.getElem?_set_self hj]))
      · cases hr) fun d r hd hr => by
      obtain ⟨i, hi, rfl⟩ := List.mem_map.mp hd
      rw [hf] at hr
      split at hr
      · cases hr
        rfl
      · cases hr
  rw [fm_pick hf] at q
  exact q
end
def parsAt (l : Nat) (inner : List (List Nat)) (k : Nat) : List Nat := (List.range (l + inner.length)).filter fun u => decide (k ∈ kidsAt l inner u)
def cK (l : Nat) (inner : List (List Nat)) (k : Nat) : Int := (cnts l inner).getD k 0
def mixL (l : Nat) (inner : List (List Nat)) : List Nat := (List.range (l + inner.length)).filter fun k => decide (1 < cK l inner k)
theorem cK_at {l : Nat} {inner : List (List Nat)} {k : Nat} (h : k < l + inner.length) : ((cnts l inner).map PyData.int)[k]? = some (.int (cK l inner k)) := by
  have hl : (cnts l inner).length = l + inner.length := cntF_len _ _
  unfold cK
  rw [List.getElem?_map, List.getD_eq_getElem?_getD, List.getElem?_eq_getElem (by omega)]
  rfl
end WR
set_option Elab.async false
set_option linter.all false
set_option maxRecDepth 100000
set_option maxHeartbeats 1000000
namespace WR
open PySem PySem.Spec PyProof.Rows L2 Evl
/-! ### the law's lists and the web -/
def kkOf (l : Nat) (inner : List (List Nat)) : List (List Nat) := List.replicate l [] ++ inner
theorem kkOf_len {l : Nat} {inner : List (List Nat)} : (kkOf l inner).length = l + inner.length := by
  unfold kkOf
  rw [List.length_append, List.length_replicate]
theorem rowAt_kk {l u : Nat} {inner : List (List Nat)} : rowAt (kkOf l inner) u = kidsAt l inner u := by
  unfold rowAt kkOf kidsAt
  rw [List.getD_eq_getElem?_getD, List.getElem?_append, List.length_replicate]
  by_cases h : u < l
  · rw [if_pos h, if_pos h, List.getElem?_replicate, if_pos h]
    rfl
  · rw [if_neg h, if_neg h, List.getD_eq_getElem?_getD]
theorem ups_kk {l k : Nat} {inner : List (List Nat)} : upsL (kkOf l inner) k = parsAt l inner k := by
  unfold upsL parsAt
  rw [kkOf_len]
  congr 1
  funext u
  have h : (kkOf l inner).getD u [] = kidsAt l inner u := rowAt_kk
  rw [h]
theorem bump_at {cs : List Int} {c k : Nat} (hk : k < cs.length) : (bump cs c).getD k 0 = cs.getD k 0 + (if c = k then 1 else 0) := by
  unfold bump
  rw [List.getD_eq_getElem?_getD, List.getElem?_set]
  by_cases e : c = k
  · subst e
    rw [if_pos rfl, if_pos rfl, if_pos hk]
    rfl
  · rw [if_neg e, if_neg e, List.getD_eq_getElem?_getD]
    omega
theorem bumpAll_at {k : Nat} : ∀ {ks : List Nat} {cs : List Int}, ks.Nodup → k < cs.length → (bumpAll cs ks).getD k 0 = cs.getD k 0 + (if k ∈ ks then 1 else 0)
  | [], cs, _, _ => by
    rw [if_neg (List.not_mem_nil)]
    show cs.getD k 0 = _
    omega
  | c :: r, cs, hd, hk => by
    rw [List.nodup_cons] at hd
    show (bumpAll (bump cs c) r).getD k 0 = _
    rw [bumpAll_at hd.2 (by rw [bump_len]; exact hk), bump_at hk]
    by_cases e : c = k
    · subst e
      rw [if_pos rfl, if_neg hd.1, if_pos (List.mem_cons_self ..)]
      omega
    · have : (k ∈ c :: r) ↔ k ∈ r := by simp [Ne.symm e]
      rw [if_neg e]
      simp only [this]
      omega
theorem cnts_cnt {l k : Nat} {inner : List (List Nat)} (hnd : ∀ ks ∈ inner, ks.Nodup) (hk : k < l + inner.length) : ∀ i, i ≤ inner.length → (cntF (l + inner.length) (inner.take i)).getD k 0 = ((cnt (kidsAt l inner) k (l + i) : Nat) : Int)
  | 0, _ => by
    have h0 : cnt (kidsAt l inner) k (l + 0) = 0 := cnt_out fun u hu h => by
      unfold kidsAt at h
      rw [if_pos (by omega)] at h
      cases h
    rw [h0, List.take_zero]
    show (List.replicate (l + inner.length) (0 : Int)).getD k 0 = 0
    rw [List.getD_eq_getElem?_getD, List.getElem?_replicate]
    split <;> rfl
  | i + 1, hi => by
    have hil : i < inner.length := by omega
    have hg : inner[i]? = some inner[i] := List.getElem?_eq_getElem hil
    have hk2 : kidsAt l inner (l + i) = inner[i] := by
      unfold kidsAt
      rw [if_neg (by omega), show l + i - l = i by omega, List.getD_eq_getElem?_getD, hg]
      rfl
    rw [cntF_take hg, bumpAll_at (hnd _ (List.getElem_mem hil)) (by rw [cntF_len]; exact hk), cnts_cnt hnd hk i (by omega)]
    show _ = ((cnt (kidsAt l inner) k (l + i) + (if k ∈ kidsAt l inner (l + i) then 1 else 0) : Nat) : Int)
    rw [hk2]
    split <;> simp
theorem cK_pars {l k : Nat} {inner : List (List Nat)} (hnd : ∀ ks ∈ inner, ks.Nodup) (hk : k < l + inner.length) : cK l inner k = ((parsAt l inner k).length : Int) := by
  have h := cnts_cnt hnd hk inner.length (Nat.le_refl _)
  rw [List.take_length] at h
  unfold cK cnts
  rw [h, ← ups_kk, cnt_ups, kkOf_len]
  have e : rowAt (kkOf l inner) = kidsAt l inner := funext fun u => rowAt_kk
  rw [e]
/-- no item of a drawn web has a kind twice -/
theorem plc_inj {a b : Nat} {od : List Nat} (ha : a ∈ od) (hb : b ∈ od) (h : plc a od = plc b od) : a = b := by
  have h1 := plc_get ha
  have h2 := plc_get hb
  rw [h, h2] at h1
  exact (Option.some.inj h1).symm
theorem Drawn.nd {L : Nat} {inner : List (List Nat)} (h : Drawn L inner) : ∀ ks ∈ inner, ks.Nodup := by
  obtain ⟨kk, od, hG, hn, hO, hlen, rfl⟩ := h.ex
  intro ks hks
  obtain ⟨u, hu, rfl⟩ := List.mem_map.mp hks
  have hum := List.mem_of_mem_drop hu
  unfold itemOf
  have h1 : ((rowAt kk u).map fun c => ((plc c od : Nat) : Int)).Nodup := by
    refine List.pairwise_map.mpr ((hG.nd u).imp_of_mem fun {a b} ha hb hab z => hab ?_)
    exact plc_inj (hO.dn u a hum ha).1 (hO.dn u b hum hb).1 (by omega)
  have h2 := ((sortI_perm ((rowAt kk u).map fun c => ((plc c od : Nat) : Int))).nodup_iff).mpr h1
  refine List.pairwise_map.mpr (h2.imp_of_mem fun {a b} ha hb hab z => hab ?_)
  obtain ⟨x, _, rfl⟩ := List.mem_map.mp ((sortI_perm _).mem_iff.mp ha)
  obtain ⟨y, _, rfl⟩ := List.mem_map.mp ((sortI_perm _).mem_iff.mp hb)
  rw [Int.toNat_natCast, Int.toNat_natCast] at z
  omega
theorem mixL_eq {l : Nat} {inner : List (List Nat)} (hnd : ∀ ks ∈ inner, ks.Nodup) : mixL l inner = (List.range (l + inner.length)).filter fun k => decide ((1 : Int) < ((parsAt l inner k).length : Int)) := by
  unfold mixL
  refine List.filter_congr fun k hk => ?_
  rw [cK_pars hnd (List.mem_range.mp hk)]
end WR
set_option Elab.async false
set_option linter.all false
set_option maxRecDepth 100000
set_option maxHeartbeats 1000000
namespace WR
open PySem PySem.Spec PyProof.Rows L2 Evl
/-! ### links -/
def prD (u c : Nat) : PyData := .tuple [natD u, natD c]
def linksTo (l : Nat) (inner : List (List Nat)) (n : Nat) : List PyData := (List.range n).flatMap fun u => (kidsAt l inner u).map (prD u)
theorem linksTo_succ {l n : Nat} {inner : List (List Nat)} : linksTo l inner (n + 1) = linksTo l inner n ++ (kidsAt l inner n).map (prD n) := by
  unfold linksTo
  rw [List.range_succ, List.flatMap_append]
  simp
theorem kl30 {l : Nat} {inner : List (List Nat)} {k : Nat} (hw : Raw l inner) : (kidsAt l inner k).length ≤ 30 := by
  unfold kidsAt
  by_cases h : k < l
  · rw [if_pos h]
    exact Nat.zero_le _
  · rw [if_neg h, List.getD_eq_getElem?_getD]
    cases e : inner[k - l]? with
    | none => exact Nat.zero_le _
    | some ks => exact hw.len ks (List.mem_of_getElem? e)
theorem linksTo_len {l : Nat} {inner : List (List Nat)} (hw : Raw l inner) : ∀ n, (linksTo l inner n).length ≤ 30 * n
  | 0 => Nat.le_refl _
  | n + 1 => by
    rw [linksTo_succ, List.length_append, List.length_map]
    have := linksTo_len hw n
    have := kl30 (k := n) hw
    omega
theorem nl_prs (u : Nat) (ks : List Nat) : nlAll (ks.map (prD u)) = true := nlAll_mem fun d hd => by
  obtain ⟨c, _, rfl⟩ := List.mem_map.mp hd
  rfl
theorem nl_links {l : Nat} {inner : List (List Nat)} {n : Nat} : nlAll (linksTo l inner n) = true := nlAll_mem fun d hd => by
  unfold linksTo at hd
  obtain ⟨u, _, h⟩ := List.mem_flatMap.mp hd
  obtain ⟨c, _, rfl⟩ := List.mem_map.mp h
  rfl
theorem nlAll_app {a b : List PyData} (ha : nlAll a = true) (hb : nlAll b = true) : nlAll (a ++ b) = true := nlAll_mem fun d hd => by
  rcases List.mem_append.mp hd with h | h
  · exact nlAll_of ha d h
  · exact nlAll_of hb d h
end WR
set_option Elab.async false
set_option linter.all false
set_option maxRecDepth 100000
set_option maxHeartbeats 1000000
namespace WR
open PySem PySem.Spec PyProof.Rows L2 Evl

/-! ### data small enough to be shown -/
structure Sm (w dp : Nat) (d : PyData) : Prop where
  sh : d.showable = true
  nd : d.hasDict = false
  ls : d.leavesShort 60 = true
  wt : d.weight ≤ w
  dp : d.depth ≤ dp
structure SmL (w dp : Nat) (ds : List PyData) : Prop where
  sh : PyData.showableAll ds = true
  nd : PyData.hasDictAll ds = false
  ls : PyData.leavesShortAll 60 ds = true
  wt : PyData.weightAll ds ≤ w
  dp : PyData.depthAll ds ≤ dp
theorem Sm.ok {w dp : Nat} {d : PyData} (h : Sm w dp d) (hw : w ≤ 250000) (hd : dp ≤ 40) : okR d = true := by
  have h1 := PyData.shown_le 60 (by decide) d h.ls
  have h3 := h.wt
  have h4 : d.shown.length ≤ sizeLine := by
    show d.shown.length ≤ 2 ^ 24
    have e : (2 : Nat) ^ 24 = 16777216 := by decide
    omega
  have h2 := h.dp
  unfold okR
  rw [h.sh, h.nd, decide_eq_true h4, decide_eq_true (show d.depth ≤ 40 by omega)]
  rfl
theorem Sm.up {w dp w' dp' : Nat} {d : PyData} (h : Sm w dp d) (hw : w ≤ w') (hd : dp ≤ dp') : Sm w' dp' d :=
  ⟨h.sh, h.nd, h.ls, Nat.le_trans h.wt hw, Nat.le_trans h.dp hd⟩
theorem log_lt {n k : Nat} (h : n < 2 ^ k) (hk : 0 < k) : n.log2 < k := by
  by_cases z : n = 0
  · rw [z]
    exact hk
  · exact (Nat.log2_lt z).mpr h
theorem sm_intB {i : Int} {b : Nat} (h : i.natAbs < 10 ^ 45) (hb : i.natAbs < 2 ^ b) (h0 : 0 < b) (h9 : b ≤ 1000) : Sm b 0 (.int i) := by
  have hl := log_lt hb h0
  refine ⟨?_, ?_, ?_, ?_, ?_⟩
  · simp only [PyData.showable]
    exact decide_eq_true (by omega)
  · simp only [PyData.hasDict]
  · simp only [PyData.leavesShort]
    have e := int_text_length_le10 (k := 45) (by decide) h
    have e2 : (PyData.shown (.int i)).length = (toString i).length := PySem.ofString_length _
    exact decide_eq_true (by omega)
  · simp only [PyData.weight]
    split <;> omega
  · simp only [PyData.depth]
    exact Nat.le_refl 0
theorem sm_int {i : Int} (h : i.natAbs < 1000000000000) : Sm 41 0 (.int i) :=
  sm_intB (Nat.lt_of_lt_of_le h (by decide)) (Nat.lt_of_lt_of_le h (by decide)) (by decide) (by decide)
theorem sm_big {i : Int} (h : i.natAbs < 10 ^ 45) : Sm 150 0 (.int i) := sm_intB h (Nat.lt_of_lt_of_le h (by decide)) (by decide) (by decide)
theorem sm_nat {k : Nat} (h : k < 1000000000000) : Sm 41 0 (natD k) := sm_int (by show (k : Int).natAbs < _; omega)
theorem sm_bool {b : Bool} : Sm 0 0 (.bool b) := by
  refine ⟨?_, ?_, ?_, ?_, ?_⟩ <;> simp only [PyData.showable, PyData.hasDict, PyData.leavesShort, PyData.weight, PyData.depth, Nat.le_refl]
theorem sm_none : Sm 0 0 .none := by
  refine ⟨?_, ?_, ?_, ?_, ?_⟩ <;> simp only [PyData.showable, PyData.hasDict, PyData.leavesShort, PyData.weight, PyData.depth, Nat.le_refl]
theorem smL_nil {dp : Nat} : SmL 0 dp [] := by
  refine ⟨?_, ?_, ?_, ?_, ?_⟩ <;> simp [PyData.showableAll, PyData.hasDictAll, PyData.leavesShortAll, PyData.weightAll, PyData.depthAll]
theorem smL_cons {w w' dp dp' : Nat} {d : PyData} {ds : List PyData} (q : Sm w dp' d) (hp : dp' ≤ dp) (h : SmL w' dp ds) : SmL (w + 1 + w') dp (d :: ds) := by
  obtain ⟨a, b, c, e, f⟩ := h
  have q1 := q.wt
  have q2 := q.dp
  refine ⟨?_, ?_, ?_, ?_, ?_⟩
  · simp only [PyData.showableAll, q.sh, a, Bool.and_self]
  · simp only [PyData.hasDictAll, q.nd, b, Bool.or_self]
  · simp only [PyData.leavesShortAll, q.ls, c, Bool.and_self]
  · simp only [PyData.weightAll]
    omega
  · simp only [PyData.depthAll]
    omega
theorem SmL.up {w w' dp dp' : Nat} {ds : List PyData} (h : SmL w dp ds) (hw : w ≤ w') (hd : dp ≤ dp') : SmL w' dp' ds :=
  ⟨h.sh, h.nd, h.ls, Nat.le_trans h.wt hw, Nat.le_trans h.dp hd⟩
theorem sm_all {w dp : Nat} : ∀ {ds : List PyData}, (∀ d ∈ ds, Sm w dp d) → SmL (ds.length * (w + 1)) dp ds
  | [], _ => by
    rw [List.length_nil, Nat.zero_mul]
    exact smL_nil
  | d :: ds, h => by
    refine (smL_cons (h d (List.mem_cons_self ..)) (Nat.le_refl dp) (sm_all (ds := ds) fun x hx => h x (List.mem_cons_of_mem _ hx))).up ?_ (Nat.le_refl dp)
    rw [List.length_cons, Nat.add_mul, Nat.one_mul]
    omega
theorem SmL.tup {w dp : Nat} {ds : List PyData} (h : SmL w dp ds) : Sm w (dp + 1) (.tuple ds) := by
  obtain ⟨a, b, c, e, f⟩ := h
  refine ⟨?_, ?_, ?_, ?_, ?_⟩
  · simp only [PyData.showable, a]
  · simp only [PyData.hasDict, b]
  · simp only [PyData.leavesShort, c]
  · simp only [PyData.weight]
    omega
  · simp only [PyData.depth]
    omega
theorem SmL.lst {w dp : Nat} {ds : List PyData} (h : SmL w dp ds) : Sm w (dp + 1) (.list ds) := by
  obtain ⟨a, b, c, e, f⟩ := h
  refine ⟨?_, ?_, ?_, ?_, ?_⟩
  · simp only [PyData.showable, a]
  · simp only [PyData.hasDict, b]
  · simp only [PyData.leavesShort, c]
  · simp only [PyData.weight]
    omega
  · simp only [PyData.depth]
    omega
theorem sm_tup {w dp n : Nat} {ds : List PyData} (h : ∀ d ∈ ds, Sm w dp d) (hn : ds.length ≤ n) : Sm (n * (w + 1)) (dp + 1) (.tuple ds) :=
  ((sm_all h).up (Nat.mul_le_mul_right _ hn) (Nat.le_refl _)).tup
theorem sm_lst {w dp n : Nat} {ds : List PyData} (h : ∀ d ∈ ds, Sm w dp d) (hn : ds.length ≤ n) : Sm (n * (w + 1)) (dp + 1) (.list ds) :=
  ((sm_all h).up (Nat.mul_le_mul_right _ hn) (Nat.le_refl _)).lst
theorem sm_nats {n m : Nat} {ks : List Nat} (h : ∀ k ∈ ks, k < m) (hm : m ≤ 1000000000000) (hn : ks.length ≤ n) : Sm (n * 42) 1 (kidsD ks) :=
  sm_tup (w := 41) (dp := 0) (fun d hd => by
    obtain ⟨k, hk, rfl⟩ := List.mem_map.mp hd
    exact sm_nat (by have := h k hk; omega)) (by rw [List.length_map]; exact hn)
theorem raw_lt {l : Nat} {inner : List (List Nat)} (hw : Raw l inner) {ks : List Nat} (h : ks ∈ inner) : ∀ k ∈ ks, k < l + inner.length := fun k hk => by
  obtain ⟨j, hj, e⟩ := List.mem_iff_getElem.mp h
  have := hw.lt j ks (by rw [List.getElem?_eq_getElem hj, e]) k hk
  omega
theorem kidsAt_lt {l : Nat} {inner : List (List Nat)} (hw : Raw l inner) {u k : Nat} (h : k ∈ kidsAt l inner u) : k < l + inner.length ∧ k < u := by
  unfold kidsAt at h
  by_cases z : u < l
  · rw [if_pos z] at h
    cases h
  · rw [if_neg z, List.getD_eq_getElem?_getD] at h
    cases e : inner[u - l]? with
    | none =>
      rw [e] at h
      cases h
    | some ks =>
      rw [e] at h
      have hk : k ∈ ks := h
      have := hw.lt _ _ e k hk
      have := (List.getElem?_eq_some_iff.mp e).1
      omega
theorem sm_web {l : Nat} {inner : List (List Nat)} (hw : Raw l inner) : Sm 60000 3 (webD l inner) := by
  have h8 := hw.l8
  have h20 := hw.n20
  have h1 : Sm 25220 2 (.tuple (inner.map kidsD)) := sm_tup (n := 20) (w := 1260) (dp := 1) (fun d hd => by
    obtain ⟨ks, hks, rfl⟩ := List.mem_map.mp hd
    exact sm_nats (n := 30) (m := 28) (fun k hk => by have := raw_lt hw hks k hk; omega) (by decide) (hw.len ks hks)) (by rw [List.length_map]; exact h20)
  exact (sm_tup (ds := [natD l, .tuple (inner.map kidsD)]) (n := 2) (w := 25220) (dp := 2) (fun d hd => by
    rcases List.mem_cons.mp hd with rfl | hd
    · exact (sm_nat (by omega)).up (by omega) (by omega)
    · rw [List.mem_singleton.mp hd]
      exact h1) (by simp)).up (by decide) (by decide)
theorem sml_kk {l : Nat} {inner : List (List Nat)} (hw : Raw l inner) : Sml (kkOf l inner) := by
  have h8 := hw.l8
  have h20 := hw.n20
  refine ⟨by rw [kkOf_len]; omega, fun ks hks => ?_⟩
  unfold kkOf at hks
  rcases List.mem_append.mp hks with h | h
  · rw [List.eq_of_mem_replicate h]
    exact Nat.zero_le _
  · have := hw.len ks h
    omega

/-! ### words for the laws -/
section
variable {K : PySem.W.Frag} {σ : L2.St} {H H' : Hp} {ta tb te tx t1 t2 t3 : TE} {D : Ends} {tz tu : TS} {d : PyData} {ds es : List PyData} {p : Addr} {rs : List Addr} {kk : List (List Nat)} {k l : Nat} {ks : List Nat} {inner : List (List Nat)} {v : V}
theorem ed_el (h : EvL te σ H (nVs ks)) : EvD K te σ H (.list (natDs ks)) := fun H1 e Q q => h H1 e _ fun p H2 _ e2 hx => q _ H2 e2 (.lst (sq_of hx) (dpAll_nat ks))
theorem ed_row (h : KdAt H p rs kk) (hk : k < kk.length) (ha : Ev ta σ H (.ref p)) (hb : Ev tb σ H (nV k)) : EvD K (tOp (rIxL K) ta tb) σ H (.list (natDs (rowAt kk k))) := by
  obtain ⟨r, h1, h2⟩ := h.get (rowAt_get hk)
  exact ed_ev (ev_row h h1 ha hb) (.lst (sq_of h2) (dpAll_nat _))
theorem ev_inK (hk : Ev ta σ H (nV k)) (h : EvD K te σ H (kidsD ks)) : Ev (tOp (rIn K false) ta te) σ H (.bl (decide (k ∈ ks))) := fun H1 e Q q => hk H1 e _ fun H2 e2 => h H2 (e.trans e2) _ fun v H3 e3 hv => by
  obtain ⟨a, xs, rfl, hs, hd⟩ := dp_tup hv
  have hd : DpAll K H3 xs (natDs ks) := hd
  rw [nats_of hd] at hs
  refine rv_isT (K := K) (x := nV k) hs rfl (flat_nVs ks) H3 (Ex.refl H3) Q fun H4 e4 => ?_
  rw [inV_nat]
  exact q H4 ((e2.trans e3).trans e4)
/-- web = _law_web(deck, ..) -/
theorem q_lweb {E : XK} {i mo : Nat} {dk L : Addr} {ns : List Int} {N : Int} (h1 : Ev t1 σ H (.ref dk)) (h2 : Ev t2 σ H (nV mo)) (hD : Dk H dk L ns N) (hN : N ≤ 600000000) (m1 : 1 ≤ mo) (m8 : mo ≤ 8)
    (h3 : ∀ H1, Ex H H1 → ∀ Q : VK, (∀ (mx : Nat) H2, mx ≤ 9 → Ex (rem H1 dk) H2 → Dk H2 dk L ns (N + 1) → Q (nV mx) H2) → t3 σ H1 Q)
    (k : ∀ H' v Lv inner, Bs H H' dk L ns (N + 137) → 1 ≤ Lv → Lv ≤ mo → Dp K H' v (webD Lv inner) → Drawn Lv inner → tz D (σ.set i (some v)) H') :
    tSeq (tAsg (tCall (spLWeb K) [] E (tCons t1 (tCons t2 (tCons t3 tNil)))) (gName i)) tz D σ H :=
  h1 H (Ex.refl H) _ fun H1 e1 => h2 H1 e1 _ fun H2 e2 => h3 H2 (e1.trans e2) _ fun mx H3 hm e3 d3 => ⟨dk, L, ns, _, mo, mx, rfl, d3, by omega, m1, m8, by omega, fun H4 v Lv inner b l1 l2 hv hw => by
    have hdk : ∃ o, H dk = some o := by obtain ⟨a, b, n, d, _⟩ := hD; exact ⟨_, d.at_⟩
    have hLs : ∃ o, H L = some o := by obtain ⟨a, b, n, d, _⟩ := hD; exact ⟨_, d.ls⟩
    exact k H4 v Lv inner ⟨rem_trans ((rem_mono (e1.trans e2)).trans e3) b.ex, (b.wk (show _ ≤ N + 137 by omega)).deck, hdk, hLs⟩ l1 l2 hv hw⟩
/-- the last argument is _law_one(deck, [..]) -/
theorem lweb_one {E : XK} {ta' : TA} {dk L : Addr} {ns : List Int} {N : Int} {cs : List Nat} (h1 : Ev t1 σ H (.ref dk)) (hD : Dk H dk L ns N) (hN : N ≤ 600000000) (hc : EvA ta' σ H (nVs cs)) (c0 : cs ≠ []) (c1 : cs.length ≤ 1000) (c9 : ∀ c ∈ cs, c ≤ 9) :
    ∀ H1, Ex H H1 → ∀ Q : VK, (∀ (mx : Nat) H2, mx ≤ 9 → Ex (rem H1 dk) H2 → Dk H2 dk L ns (N + 1) → Q (nV mx) H2) → tCall (spOne K) [] E (tCons t1 (tCons (tLst ta') tNil)) σ H1 Q := fun H1 e1 Q q =>
  h1 H1 e1 _ fun H2 e2 => hc H2 (e1.trans e2) _ fun H3 e3 => ⟨sz_of (by unfold nVs; rw [List.length_map]; omega), fun li hli => by
    have d3 := (hD.ex (e1.trans e2)).ex e3
    have d4 := d3.ex (Ex.new (o := .lst (nVs cs)) hli)
    have hne : li ≠ dk := fun z => by
      obtain ⟨a, b, n, d, _⟩ := d3
      rw [z, d.at_] at hli
      cases hli
    refine ⟨dk, L, ns, N, li, nVs cs, rfl, d4, by omega, upd_same, hne, ?_, by unfold nVs; rw [List.length_map]; omega, fun x H5 hx e5 d5 => ?_⟩
    · unfold nVs
      rw [List.length_map]
      cases cs with
      | nil => exact absurd rfl c0
      | cons _ _ => simp
    · obtain ⟨c, hc', rfl⟩ := List.mem_map.mp hx
      exact q c H5 (c9 c hc') ((rem_mono ((e2.trans e3).trans (Ex.new (o := .lst (nVs cs)) hli))).trans e5) d5⟩
theorem lweb_c {dk L : Addr} {ns : List Int} {N : Int} {mx : Nat} (hD : Dk H dk L ns N) (hm : mx ≤ 9) :
    ∀ H1, Ex H H1 → ∀ Q : VK, (∀ (mx : Nat) H2, mx ≤ 9 → Ex (rem H1 dk) H2 → Dk H2 dk L ns (N + 1) → Q (nV mx) H2) → tC (nV mx) σ H1 Q := fun H1 e1 Q q =>
  q mx H1 hm rem_ex (by
    obtain ⟨a, b, n, d, hn⟩ := hD
    exact ⟨a, b, n, d.ex e1, by omega⟩)
/-- kids, held = _law_lists(web), repr(web) -/
theorem q_lists {E : XK} {w i j : Nat} (h : σ[w]? = some (some v)) (hv : Dp K H v (webD l inner)) (hw : Raw l inner)
    (c : ∀ p rs H1, H p = none → Ex H H1 → KdAt H1 p rs (kkOf l inner) → tz D ((σ.set i (some (.ref p))).set j (some (.str (webD l inner).shown))) H1) :
    tSeq (tAsg (tTup (tCons (tCall (spLists K) [] E (tCons (tVar w) tNil)) (tCons (tCB (rReprA K) (tCons (tVar w) tNil)) tNil))) (gTup K 2 (gCons (gName i) (gCons (gName j) gNil)))) tz D σ H :=
  ⟨v, h, v, l, inner, rfl, hv, hw, fun p rs H1 e1 hp kd => (ev_repr (K := K) (ed_var h (dp_ex e1 _ hv)) ((sm_web hw).ok (by decide) (by decide)) : Ev _ σ H1 _) H1 (Ex.refl H1) _ fun H2 e2 =>
    ⟨by show 2 ≤ sizeLine; decide, fun t ht => ⟨t, _, rfl, st_of upd_same, rfl, _, _, rfl, _, _, rfl, rfl, c p rs _ hp ((e1.trans e2).trans (Ex.new ht)) ((kd.ex e2).ex (Ex.new ht))⟩⟩⟩
/-- xs.extend(a new list of data) -/
theorem q_extD {q : Addr} (hl : LD K H q ds) (ha : Ev ta σ H (.ref q)) (h : EvN K te σ H es) (hz : ds.length + es.length ≤ 100000) (hn : nlAll ds = true) (hd : nlAll es = true)
    (k : ∀ H1, (∀ B : Hp, Ex B H → B q = none → Ex B H1) → LD K H1 q (ds ++ es) → tz D σ H1) :
    tSeq (tDrop (tBM K "list" rExtend ta (tCons te tNil))) tz D σ H := ha H (Ex.refl H) _ fun H1 e1 => by
  obtain ⟨xs, h1, h2⟩ := hl
  refine ⟨.inl ⟨rfl, xs, sq_of (e1 q _ h1)⟩, h H1 e1 _ fun b ys H2 hb e2 hb2 hy => ?_⟩
  have h3 := e2 q _ (e1 q _ h1)
  refine ⟨q, b, xs, ys, rfl, rfl, h3, hb2, sz_of (by rw [dpAll_len h2, dpAll_len hy]; exact hz), k _ (fun B eb hb => Ex.mut ((eb.trans e1).trans e2) hb) ⟨_, upd_same, ?_⟩⟩
  exact dpAll_app (dpAll_updL h3 _ hn (dpAll_ex (e1.trans e2) _ h2)) (dpAll_updL h3 _ hd hy)
/-- due[1:3] -/
theorem en_sl13 {d0 d1 d2 : PyData} (h : EvD K te σ H (.list (d0 :: d1 :: d2 :: ds))) : EvN K (tSl (rSlL K) te (tPart (tC (.int 1))) (tPart (tC (.int 3)))) σ H [d1, d2] := fun H1 e Q q =>
  h H1 e _ fun v H2 e2 hv => by
    obtain ⟨a, xs, rfl, hs, hd⟩ := dp_lst hv
    obtain ⟨x0, x1, x2, xr, rfl, a1, a2⟩ : ∃ x0 x1 x2 xr, xs = x0 :: x1 :: x2 :: xr ∧ Dp K H2 x1 d1 ∧ Dp K H2 x2 d2 := by
      cases hd with
      | cons a0 hd =>
        cases hd with
        | cons a1 hd =>
          cases hd with
          | cons a2 hd => exact ⟨_, _, _, _, rfl, a1, a2⟩
    refine ⟨1, rfl, 3, rfl, a, _, rfl, hs, fun c nc => ?_⟩
    have hc : cutV (x0 :: x1 :: x2 :: xr) (some 1) (some 3) = [x1, x2] := by
      unfold cutV
      rw [show HT.sIx (x0 :: x1 :: x2 :: xr).length 0 (some 1) = min 1 (x0 :: x1 :: x2 :: xr).length from HT.sIx_nat _ _ 1, show HT.sIx (x0 :: x1 :: x2 :: xr).length (x0 :: x1 :: x2 :: xr).length (some 3) = min 3 (x0 :: x1 :: x2 :: xr).length from HT.sIx_nat _ _ 3]
      rw [Nat.min_eq_left (by simp), Nat.min_eq_left (by simp)]
      rfl
    rw [hc]
    exact q c _ _ (fresh_back e2 nc) (e2.trans (Ex.new nc)) upd_same (.cons (dp_ex (Ex.new nc) _ a1) (.cons (dp_ex (Ex.new nc) _ a2) .nil))
end
theorem eqvT_nil : ∀ ks : List Nat, PyData.eqv (.tuple (natDs ks)) (.tuple []) = ks.isEmpty
  | [] => by simp [natDs, PyData.eqv, PyData.eqvAll]
  | _ :: _ => by simp [natDs, PyData.eqv, PyData.eqvAll]
theorem shapedT_nats (ks : List Nat) : SeqAt.shaped (.tuple (natDs ks)) = true := by
  have e : natDs ks = (ks.map fun (k : Nat) => (k : Int)).map PyData.int := by
    unfold natDs
    rw [List.map_map]
    rfl
  rw [e]
  have q := lay_ints (ks.map fun (k : Nat) => (k : Int))
  show (PyData.canLay0 _ && decide (PyData.depth _ ≤ 64)) = true
  simp only [PyData.canLay0, PyData.depth, q.1, q.2]
  decide
/-- a tuple of kinds == () -/
theorem ev_eqNilT {K : PySem.W.Frag} {σ : L2.St} {H : Hp} {ta : TE} {ks : List Nat} (h : EvD K ta σ H (kidsD ks)) : Ev (tOp (rEqD K) ta (tTup tNil)) σ H (.bl ks.isEmpty) := fun H1 e Q q =>
  h H1 e _ fun v H2 e2 hv => ⟨by show 0 ≤ sizeLine; decide, fun p hp => ⟨.tuple (natDs ks), .tuple [], dp_ex (Ex.new hp) (kidsD ks) hv, .tup (st_of upd_same) .nil, shapedT_nats ks, shapedT_nats [], by
    rw [eqvT_nil]
    exact q _ (e2.trans (Ex.new hp))⟩⟩
end WR
set_option Elab.async false
set_option linter.all false
set_option maxRecDepth 100000
set_option maxHeartbeats 1000000
namespace WR
open PySem PySem.Spec PyProof.Rows L2 Evl
/-! ### beneath -/
noncomputable def rchB (kk : List (List Nat)) (k x : Nat) : Bool := @decide (Rch kk k x) (Classical.propDecidable _)
theorem rchB_iff {kk : List (List Nat)} {k x : Nat} : rchB kk k x = true ↔ Rch kk k x := by
  unfold rchB
  exact @decide_eq_true_iff _ (Classical.propDecidable _)
theorem rch_le {kk : List (List Nat)} (hd : ∀ u c, c ∈ rowAt kk u → c < u) {k x : Nat} (h : Rch kk k x) : x ≤ k :=
  h (fun y => y ≤ k) (Nat.le_refl k) fun u c hu hc => by have := hd u c hc; omega
noncomputable def benL (l : Nat) (inner : List (List Nat)) (k : Nat) : List Nat := (List.range k).filter (rchB (kkOf l inner) k)
/-- the marks, kinds from j on are done -/
structure Mk (kk : List (List Nat)) (k j : Nat) (bs : List Bool) : Prop where
  len : bs.length = k + 1
  top : bs[k]? = some true
  snd : ∀ x, bs[x]? = some true → Rch kk k x
  shut : ∀ w, j ≤ w → w ≤ k → bs[w]? = some true → ∀ c ∈ rowAt kk w, bs[c]? = some true
def markAll (bs : List Bool) (ks : List Nat) : List Bool := ks.foldl (fun b c => b.set c true) bs
theorem markAll_len : ∀ (ks : List Nat) (bs : List Bool), (markAll bs ks).length = bs.length
  | [], _ => rfl
  | c :: r, bs => by
    show (markAll (bs.set c true) r).length = _
    rw [markAll_len r, List.length_set]
theorem markAll_at {x : Nat} : ∀ {ks : List Nat} {bs : List Bool}, (markAll bs ks)[x]? = if x ∈ ks ∧ x < bs.length then some true else bs[x]?
  | [], bs => by
    rw [if_neg (fun z => by cases z.1)]
    rfl
  | c :: r, bs => by
    show (markAll (bs.set c true) r)[x]? = _
    rw [markAll_at, List.length_set]
    by_cases h : x ∈ r ∧ x < bs.length
    · rw [if_pos h, if_pos ⟨List.mem_cons_of_mem _ h.1, h.2⟩]
    · rw [if_neg h, List.getElem?_set]
      by_cases e : c = x
      · subst e
        rw [if_pos rfl]
        by_cases z : c < bs.length
        · rw [if_pos z, if_pos ⟨List.mem_cons_self .., z⟩]
        · rw [if_neg z, if_neg fun y => z y.2]
          exact (List.getElem?_eq_none (by omega)).symm
      · rw [if_neg e, if_neg]
        rintro ⟨y, z⟩
        rcases List.mem_cons.mp y with y | y
        · exact e y.symm
        · exact h ⟨y, z⟩
theorem markAll_take {ks : List Nat} {bs : List Bool} {j c : Nat} (h : ks[j]? = some c) : markAll bs (ks.take (j + 1)) = (markAll bs (ks.take j)).set c true := by
  unfold markAll
  rw [List.take_add_one, h, List.foldl_append]
  rfl
theorem Mk.skip {kk : List (List Nat)} {k j : Nat} {bs : List Bool} (m : Mk kk k (j + 1) bs) (h : bs[j]? ≠ some true) : Mk kk k j bs :=
  ⟨m.len, m.top, m.snd, fun w h1 h2 h3 => by
    by_cases e : w = j
    · subst e
      exact absurd h3 h
    · exact m.shut w (by omega) h2 h3⟩
theorem Mk.step {kk : List (List Nat)} {k j : Nat} {bs : List Bool} (m : Mk kk k (j + 1) bs) (hj : j ≤ k) (hlt : ∀ c ∈ rowAt kk j, c < j) (hb : bs[j]? = some true) : Mk kk k j (markAll bs (rowAt kk j)) := by
  have keep : ∀ x, bs[x]? = some true → (markAll bs (rowAt kk j))[x]? = some true := fun x hx => by
    rw [markAll_at]
    split
    · rfl
    · exact hx
  refine ⟨by rw [markAll_len]; exact m.len, keep k m.top, fun x hx => ?_, fun w h1 h2 h3 c hc => ?_⟩
  · rw [markAll_at] at hx
    by_cases z : x ∈ rowAt kk j ∧ x < bs.length
    · exact rch_shut j x (m.snd j hb) z.1
    · rw [if_neg z] at hx
      exact m.snd x hx
  · by_cases e : w = j
    · subst e
      rw [markAll_at, if_pos ⟨hc, by have := hlt c hc; have := m.len; omega⟩]
    · have hw : bs[w]? = some true := by
        rw [markAll_at] at h3
        by_cases z : w ∈ rowAt kk j ∧ w < bs.length
        · have := hlt w z.1
          omega
        · rw [if_neg z] at h3
          exact h3
      exact keep c (m.shut w (by omega) h2 hw c hc)
theorem Mk.iff {kk : List (List Nat)} {k : Nat} {bs : List Bool} (m : Mk kk k 0 bs) (x : Nat) : bs[x]? = some true ↔ Rch kk k x := by
  refine ⟨m.snd x, fun h => h (fun x => bs[x]? = some true) m.top fun u c hu hc => m.shut u (Nat.zero_le _) ?_ hu c hc⟩
  have := (List.getElem?_eq_some_iff.mp hu).1
  have := m.len
  omega
theorem mk_start {kk : List (List Nat)} {k : Nat} : Mk kk k (k + 1) ((List.range (k + 1)).map fun i => decide (i = k)) := by
  have hat : ∀ x, ((List.range (k + 1)).map fun i => decide (i = k))[x]? = some true → x = k := fun x h => by
    rw [List.getElem?_map] at h
    obtain ⟨i, hi, e⟩ := Option.map_eq_some_iff.mp h
    have := (List.getElem?_eq_some_iff.mp hi).2
    rw [List.getElem_range] at this
    have e := of_decide_eq_true e
    omega
  refine ⟨by rw [List.length_map, List.length_range], ?_, fun x h => ?_, fun w h1 h2 _ => by omega⟩
  · rw [List.getElem?_map, List.getElem?_range (Nat.lt_succ_self k)]
    show some (decide (k = k)) = _
    rw [decide_eq_true rfl]
  · rw [hat x h]
    exact rch_self
/-- the three of a web, a kind and a kind -/
def spWKK (K : PySem.W.Frag) (g : Nat → List (List Nat) → Nat → Nat → PyData) : Sp := fun vs H Q _ =>
  ∃ v l inner k t, vs = [v, .int ((k : Nat) : Int), .int ((t : Nat) : Int)] ∧ Dp K H v (webD l inner) ∧ Raw l inner ∧ k < l + inner.length ∧ t < l + inner.length ∧ ∀ r H', Ex H H' → Dp K H' r (g l inner k t) → Q r H'
theorem spWKK_len {K : PySem.W.Frag} {g : Nat → List (List Nat) → Nat → Nat → PyData} {vs : List V} {H : Hp} {Q : VK} {E : XK} (h : spWKK K g vs H Q E) : vs.length = 3 := by
  obtain ⟨v, l, inner, k, t, rfl, _⟩ := h
  rfl
theorem ed_callWKK {K : PySem.W.Frag} {σ : L2.St} {H : Hp} {te tx ty : TE} {l k t : Nat} {inner : List (List Nat)} {g : Nat → List (List Nat) → Nat → Nat → PyData} {E : XK} (h : EvD K te σ H (webD l inner)) (hk : EvD K tx σ H (natD k)) (ht : EvD K ty σ H (natD t)) (hw : Raw l inner) (hlt : k < l + inner.length) (htt : t < l + inner.length) :
    EvD K (tCall (spWKK K g) [] E (tCons te (tCons tx (tCons ty tNil)))) σ H (g l inner k t) := fun H1 e Q q =>
  h H1 e _ fun v H2 e2 hv => hk H2 (e.trans e2) _ fun w H3 e3 hw' => ht H3 ((e.trans e2).trans e3) _ fun x H4 e4 hx => by
    cases dp_int hw'
    cases dp_int hx
    exact ⟨v, l, inner, k, t, rfl, dp_ex (e3.trans e4) _ hv, hw, hlt, htt, fun r H5 e5 hr => q r H5 (((e2.trans e3).trans e4).trans e5) hr⟩
/-- for i in range(n - 1, -1, -1) -/
theorem q_forR3 {σ : L2.St} {H : Hp} {D : Ends} {tu tz : TS} {ta : TA} {j : Nat} {lo : Int} {n : Nat} (h : EvA ta σ H [.int lo, .int (-1), .int (-1)]) (hn : lo + 1 = (n : Int)) (h1 : n ≤ 100000) (Pv : Nat → L2.St → Hp → Prop) (h0 : ∀ H1, Ex H H1 → Pv 0 σ H1)
    (hs : ∀ (i : Nat) σ' H', i < n → Pv i σ' H' → tu { D with nx := Pv (i + 1), ct := Pv (i + 1), bk := tz D } (σ'.set j (some (.int (lo + (i : Nat) * (-1))))) H') (hd : ∀ σ' H', Pv n σ' H' → tz D σ' H') : tSeq (tFor (iRng3 ta) (gName j) tu) tz D σ H :=
  h H (Ex.refl H) _ fun H1 e => ⟨lo, -1, -1, n, rfl, by
    have q := RgC.neg (i := lo) (j := -1) (by omega) (by omega) (by omega) (by omega)
    rw [show (lo - -1).toNat = n by omega] at q
    exact q, for_rangeC (D := { D with nx := tz D }) Pv (h0 H1 e) (fun i σ' H' hi p => hs i σ' H' hi p) hd⟩
end WR
set_option Elab.async false
set_option linter.all false
set_option maxRecDepth 100000
set_option maxHeartbeats 1000000
namespace WR
open PySem PySem.Spec PyProof.Rows L2 Evl

/-! ### how many ways: the mathematics -/
def wayL (kf : Nat → List Nat) (to : Nat) : Nat → List Int
  | 0 => []
  | n + 1 => wayL kf to n ++ [((kf n).map fun c => (wayL kf to n).getD c 0).sum + (if n = to then 1 else 0)]
def way (kf : Nat → List Nat) (to k : Nat) : Int := (wayL kf to (k + 1)).getD k 0
theorem wayL_len {kf : Nat → List Nat} {to : Nat} : ∀ n, (wayL kf to n).length = n
  | 0 => rfl
  | n + 1 => by
    show (wayL kf to n ++ [_]).length = _
    rw [List.length_append, wayL_len n]
    rfl
theorem wayL_at {kf : Nat → List Nat} {to k : Nat} : ∀ {n : Nat}, k < n → (wayL kf to n).getD k 0 = way kf to k
  | n + 1, h => by
    by_cases e : k = n
    · subst e
      rfl
    · show (wayL kf to n ++ [_]).getD k 0 = _
      rw [List.getD_eq_getElem?_getD, List.getElem?_append_left (by rw [wayL_len]; omega), ← List.getD_eq_getElem?_getD]
      exact wayL_at (by omega)
theorem wayL_eq {kf : Nat → List Nat} {to : Nat} (n : Nat) : wayL kf to n = (List.range n).map (way kf to) := by
  refine List.ext_getElem? fun k => ?_
  by_cases h : k < n
  · rw [List.getElem?_map, List.getElem?_range h]
    have := wayL_at (kf := kf) (to := to) h
    rw [List.getD_eq_getElem?_getD, List.getElem?_eq_getElem (by rw [wayL_len]; exact h)] at this
    rw [List.getElem?_eq_getElem (by rw [wayL_len]; exact h)]
    exact congrArg some this
  · rw [List.getElem?_eq_none (by rw [wayL_len]; omega), List.getElem?_eq_none (by rw [List.length_map, List.length_range]; omega)]
theorem way_rec {kf : Nat → List Nat} {to k : Nat} (h : ∀ c ∈ kf k, c < k) : way kf to k = ((kf k).map (way kf to)).sum + (if k = to then 1 else 0) := by
  unfold way
  show (wayL kf to k ++ [_]).getD k 0 = _
  rw [List.getD_eq_getElem?_getD, List.getElem?_append_right (by rw [wayL_len]; exact Nat.le_refl _), wayL_len, Nat.sub_self]
  show ((kf k).map fun c => (wayL kf to k).getD c 0).sum + _ = _
  congr 2
  exact List.map_congr_left fun c hc => wayL_at (h c hc)
theorem sum_nn : ∀ {ns : List Int}, (∀ n ∈ ns, 0 ≤ n) → 0 ≤ ns.sum
  | [], _ => Int.le_refl 0
  | n :: r, h => by
    rw [List.sum_cons]
    have := h n (List.mem_cons_self ..)
    have := sum_nn (ns := r) fun m hm => h m (List.mem_cons_of_mem _ hm)
    omega
theorem sum_ge : ∀ {ns : List Int} {n : Int}, (∀ n ∈ ns, 0 ≤ n) → n ∈ ns → n ≤ ns.sum
  | m :: r, n, h, hn => by
    rw [List.sum_cons]
    have := h m (List.mem_cons_self ..)
    have := sum_nn (ns := r) fun m hm => h m (List.mem_cons_of_mem _ hm)
    rcases List.mem_cons.mp hn with rfl | hn
    · omega
    · have := sum_ge (ns := r) (fun m hm => h m (List.mem_cons_of_mem _ hm)) hn
      omega
theorem sum_pos : ∀ {ns : List Int}, 0 < ns.sum → ∃ n ∈ ns, 0 < n
  | [], h => absurd h (by simp)
  | n :: r, h => by
    rw [List.sum_cons] at h
    by_cases z : 0 < n
    · exact ⟨n, List.mem_cons_self .., z⟩
    · obtain ⟨m, a, b⟩ := sum_pos (ns := r) (by omega)
      exact ⟨m, List.mem_cons_of_mem _ a, b⟩
theorem sum_le_mul : ∀ {ns : List Int} {B : Int}, (∀ n ∈ ns, n ≤ B) → ns.sum ≤ ns.length * B
  | [], B, _ => by simp
  | n :: r, B, h => by
    rw [List.sum_cons, List.length_cons]
    have := h n (List.mem_cons_self ..)
    have := sum_le_mul (ns := r) fun m hm => h m (List.mem_cons_of_mem _ hm)
    rw [Int.natCast_add, Int.add_mul]
    omega
section
variable {kf : Nat → List Nat} {to : Nat} (hd : ∀ u c, c ∈ kf u → c < u)
include hd
theorem way_nn : ∀ k, 0 ≤ way kf to k := fun k => by
  induction k using Nat.strongRecOn with
  | ind k ih =>
    rw [way_rec (hd k)]
    have : 0 ≤ ((kf k).map (way kf to)).sum := sum_nn fun n hn => by
      obtain ⟨c, hc, rfl⟩ := List.mem_map.mp hn
      exact ih c (hd k c hc)
    split <;> omega
theorem way_self : 1 ≤ way kf to to := by
  rw [way_rec (hd to), if_pos rfl]
  have : 0 ≤ ((kf to).map (way kf to)).sum := sum_nn fun n hn => by
    obtain ⟨c, hc, rfl⟩ := List.mem_map.mp hn
    exact way_nn hd c
  omega
theorem way_ge {u c : Nat} (h : c ∈ kf u) : way kf to c ≤ way kf to u := by
  rw [way_rec (hd u)]
  have := sum_ge (ns := (kf u).map (way kf to)) (fun n hn => by
    obtain ⟨c, hc, rfl⟩ := List.mem_map.mp hn
    exact way_nn hd c) (List.mem_map_of_mem h)
  split <;> omega
theorem way_le {B : Nat} (hB : ∀ u, (kf u).length ≤ B) : ∀ k, way kf to k ≤ ((B + 1) ^ k : Nat) := fun k => by
  induction k using Nat.strongRecOn with
  | ind k ih =>
    rw [way_rec (hd k)]
    cases k with
    | zero =>
      have : kf 0 = [] := List.eq_nil_iff_forall_not_mem.mpr fun c hc => by have := hd 0 c hc; omega
      rw [this]
      show (0 : Int) + _ ≤ ((1 : Nat) : Int)
      split <;> omega
    | succ m =>
      have hs : ((kf (m + 1)).map (way kf to)).sum ≤ ((kf (m + 1)).map (way kf to)).length * (((B + 1) ^ m : Nat) : Int) := sum_le_mul fun n hn => by
        obtain ⟨c, hc, rfl⟩ := List.mem_map.mp hn
        have h1 := ih c (hd _ c hc)
        have h2 : (B + 1) ^ c ≤ (B + 1) ^ m := Nat.pow_le_pow_right (by omega) (by have := hd _ c hc; omega)
        omega
      rw [List.length_map] at hs
      have h3 : (kf (m + 1)).length * (B + 1) ^ m ≤ B * (B + 1) ^ m := Nat.mul_le_mul_right _ (hB _)
      have h4 : (B + 1) ^ (m + 1) = B * (B + 1) ^ m + (B + 1) ^ m := by rw [Nat.pow_succ, Nat.mul_comm, Nat.add_mul, Nat.one_mul]
      have h5 : 1 ≤ (B + 1) ^ m := Nat.pos_of_ne_zero (by have := Nat.pow_pos (n := m) (show 0 < B + 1 by omega); omega)
      have h6 : (((kf (m + 1)).length : Int)) * (((B + 1) ^ m : Nat) : Int) = (((kf (m + 1)).length * (B + 1) ^ m : Nat) : Int) := (Int.natCast_mul ..).symm
      rw [h6] at hs
      split <;> omega
end
theorem way_rch {kk : List (List Nat)} (hd : ∀ u c, c ∈ rowAt kk u → c < u) {to : Nat} (k : Nat) : 0 < way (rowAt kk) to k ↔ Rch kk k to := by
  constructor
  · induction k using Nat.strongRecOn with
    | ind k ih =>
      intro h
      by_cases e : k = to
      · subst e
        exact rch_self
      · rw [way_rec (hd k), if_neg e, Int.add_zero] at h
        obtain ⟨n, hn, hp⟩ := sum_pos h
        obtain ⟨c, hc, rfl⟩ := List.mem_map.mp hn
        have := ih c (hd k c hc) hp
        intro T hT hS
        exact this T (hS k c hT hc) hS
  · intro h
    by_cases z : 0 < way (rowAt kk) to k
    · exact z
    · have hk : way (rowAt kk) to k = 0 := by have := way_nn (to := to) hd k; omega
      have := h (fun y => way (rowAt kk) to y = 0) hk fun u c hu hc => by
        have h1 := way_ge (to := to) hd hc
        have h2 := way_nn (to := to) hd c
        have hu : way (rowAt kk) to u = 0 := hu
        show way (rowAt kk) to c = 0
        omega
      have h3 := way_self (to := to) hd
      have h4 : way (rowAt kk) to to = 0 := this
      omega
theorem way_small {l : Nat} {inner : List (List Nat)} (hw : Raw l inner) {to k : Nat} (hk : k < l + inner.length) : Sm 150 0 (.int (way (kidsAt l inner) to k)) := by
  have h8 := hw.l8
  have h20 := hw.n20
  have hd : ∀ u c, c ∈ kidsAt l inner u → c < u := fun u c h => (kidsAt_lt hw h).2
  have h1 := way_nn (to := to) hd k
  have h2 := way_le (to := to) hd (B := 30) (fun u => kl30 hw) k
  have h3 : (30 + 1) ^ k ≤ (30 + 1) ^ 28 := Nat.pow_le_pow_right (by decide) (by omega)
  have h4 : (30 + 1) ^ 28 < 10 ^ 45 := by decide
  refine sm_big ?_
  generalize (30 + 1) ^ k = a at h2 h3
  generalize (30 + 1) ^ 28 = b at h3 h4
  generalize 10 ^ 45 = c at h4 ⊢
  omega
theorem rowAt_kkE {l : Nat} {inner : List (List Nat)} : rowAt (kkOf l inner) = kidsAt l inner := funext fun u => rowAt_kk
section
variable {K : PySem.W.Frag} {σ : L2.St} {H H' : Hp} {te : TE} {D : Ends} {tz : TS} {l : Nat} {inner : List (List Nat)} {v : V}
/-- kids = _law_lists(web) -/
theorem q_lists1 {E : XK} {i : Nat} (h : Ev te σ H v) (hv : Dp K H v (webD l inner)) (hw : Raw l inner)
    (c : ∀ p rs H1, H p = none → Ex H H1 → KdAt H1 p rs (kkOf l inner) → tz D (σ.set i (some (.ref p))) H1) :
    tSeq (tAsg (tCall (spLists K) [] E (tCons te tNil)) (gName i)) tz D σ H :=
  h H (Ex.refl H) _ fun H1 e1 => ⟨v, l, inner, rfl, dp_ex e1 _ hv, hw, fun p rs H2 e2 hp kd => c p rs H2 (fresh_back e1 hp) (e1.trans e2) kd⟩
theorem q_lists2 {E : XK} {w i j : Nat} (h : σ[w]? = some (some v)) (hv : Dp K H v (webD l inner)) (hw : Raw l inner)
    (c : ∀ p rs H1, H p = none → Ex H H1 → KdAt H1 p rs (kkOf l inner) → tz D ((σ.set i (some (.ref p))).set j (some (.str (webD l inner).shown))) H1) :
    tSeq (tPar i j (tCons (tCall (spLists K) [] E (tCons (tVar w) tNil)) (tCons (tCB (rReprA K) (tCons (tVar w) tNil)) tNil))) tz D σ H :=
  ⟨v, h, v, l, inner, rfl, hv, hw, fun p rs H1 e1 hp kd => (ev_repr (K := K) (ed_var h (dp_ex e1 _ hv)) ((sm_web hw).ok (by decide) (by decide)) : Ev _ σ H1 _) H1 (Ex.refl H1) _ fun H2 e2 =>
    ⟨_, _, rfl, c p rs H2 hp (e1.trans e2) (kd.ex e2)⟩⟩
end
end WR
set_option Elab.async false
set_option linter.all false
set_option maxRecDepth 100000
set_option maxHeartbeats 1000000
namespace WR
open PySem PySem.Spec PyProof.Rows L2 Evl

/-! ### ways by their numbers: the mathematics -/
structure Asc (l : Nat) (inner : List (List Nat)) : Prop where
  raw : Raw l inner
  up : ∀ ks ∈ inner, ks.Pairwise (· < ·)
theorem Asc.at {l : Nat} {inner : List (List Nat)} (A : Asc l inner) (u : Nat) : (kidsAt l inner u).Pairwise (· < ·) := by
  unfold kidsAt
  by_cases z : u < l
  · rw [if_pos z]
    exact List.Pairwise.nil
  · rw [if_neg z, List.getD_eq_getElem?_getD]
    cases e : inner[u - l]? with
    | none => exact List.Pairwise.nil
    | some ks => exact A.up ks (List.mem_of_getElem? e)
def chooseW (f : Nat → Int) : List Nat → Int → Nat × Int
  | [], p => (0, p)
  | c :: r, p => if p < f c then (c, p) else chooseW f r (p - f c)
/-- what is ahead of a child -/
def aheadW (f : Nat → Int) (ks : List Nat) (c : Nat) : Int := ((ks.filter fun x => decide (x < c)).map f).sum
theorem aheadW_cons {f : Nat → Int} {k : Nat} {r : List Nat} {c : Nat} : aheadW f (k :: r) c = (if k < c then f k else 0) + aheadW f r c := by
  unfold aheadW
  rw [List.filter_cons]
  by_cases z : k < c
  · rw [if_pos (decide_eq_true z), if_pos z, List.map_cons, List.sum_cons]
  · rw [if_neg (by simpa using z), if_neg z, Int.zero_add]
theorem aheadW_zero {f : Nat → Int} {ks : List Nat} {c : Nat} (h : ∀ x ∈ ks, c ≤ x) : aheadW f ks c = 0 := by
  unfold aheadW
  rw [List.filter_eq_nil_iff.mpr fun x hx => by have := h x hx; simp; omega]
  rfl
theorem aheadW_nn {f : Nat → Int} (h0 : ∀ k, 0 ≤ f k) {ks : List Nat} {c : Nat} : 0 ≤ aheadW f ks c := sum_nn fun n hn => by
  obtain ⟨y, _, rfl⟩ := List.mem_map.mp hn
  exact h0 y
theorem chooseW_ok {f : Nat → Int} (h0 : ∀ k, 0 ≤ f k) : ∀ {ks : List Nat} {p : Int}, ks.Pairwise (· < ·) → 0 ≤ p → p < (ks.map f).sum →
    (chooseW f ks p).1 ∈ ks ∧ 0 ≤ (chooseW f ks p).2 ∧ (chooseW f ks p).2 < f (chooseW f ks p).1 ∧ p = aheadW f ks (chooseW f ks p).1 + (chooseW f ks p).2
  | [], p, _, hp, hs => by
    rw [List.map_nil, List.sum_nil] at hs
    omega
  | c :: r, p, ha, hp, hs => by
    rw [List.pairwise_cons] at ha
    rw [List.map_cons, List.sum_cons] at hs
    unfold chooseW
    by_cases z : p < f c
    · rw [if_pos z]
      refine ⟨List.mem_cons_self .., hp, z, ?_⟩
      show p = aheadW f (c :: r) c + p
      rw [aheadW_zero fun x hx => ?_]
      · omega
      · rcases List.mem_cons.mp hx with rfl | hx
        · exact Nat.le_refl _
        · exact Nat.le_of_lt (ha.1 x hx)
    · rw [if_neg z]
      obtain ⟨h1, h2, h3, h4⟩ := chooseW_ok h0 (ks := r) (p := p - f c) ha.2 (by omega) (by omega)
      refine ⟨List.mem_cons_of_mem _ h1, h2, h3, ?_⟩
      rw [aheadW_cons, if_pos (ha.1 _ h1)]
      omega
theorem ahead_add {f : Nat → Int} (h0 : ∀ k, 0 ≤ f k) : ∀ {ks : List Nat} {c d : Nat}, ks.Pairwise (· < ·) → c ∈ ks → c < d → aheadW f ks c + f c ≤ aheadW f ks d
  | k :: r, c, d, ha, hc, hd => by
    rw [List.pairwise_cons] at ha
    rw [aheadW_cons, aheadW_cons]
    rcases List.mem_cons.mp hc with e | hc
    · subst e
      rw [if_neg (Nat.lt_irrefl _), if_pos hd, aheadW_zero fun x hx => Nat.le_of_lt (ha.1 x hx)]
      have := aheadW_nn h0 (ks := r) (c := d)
      omega
    · have := ahead_add h0 ha.2 hc hd
      have h1 := ha.1 c hc
      rw [if_pos h1, if_pos (show k < d by omega)]
      omega
theorem ahead_sum {f : Nat → Int} (h0 : ∀ k, 0 ≤ f k) : ∀ {ks : List Nat} {c : Nat}, ks.Pairwise (· < ·) → c ∈ ks → aheadW f ks c + f c ≤ (ks.map f).sum
  | k :: r, c, ha, hc => by
    rw [List.pairwise_cons] at ha
    rw [aheadW_cons, List.map_cons, List.sum_cons]
    rcases List.mem_cons.mp hc with e | hc
    · subst e
      rw [if_neg (Nat.lt_irrefl _), aheadW_zero fun x hx => Nat.le_of_lt (ha.1 x hx)]
      have := sum_nn (ns := r.map f) fun n hn => by
        obtain ⟨y, _, rfl⟩ := List.mem_map.mp hn
        exact h0 y
      omega
    · have := ahead_sum h0 ha.2 hc
      rw [if_pos (ha.1 c hc)]
      omega
def wayN (kf : Nat → List Nat) (to : Nat) : Nat → Nat → Int → List Nat
  | 0, k, _ => [k]
  | n + 1, k, p => if k = to then [k] else k :: wayN kf to n (chooseW (way kf to) (kf k) p).1 (chooseW (way kf to) (kf k) p).2
def wayAt (kf : Nat → List Nat) (to k : Nat) (p : Int) : List Nat := wayN kf to k k p
def isWayL (kf : Nat → List Nat) : List Nat → Prop
  | [] => False
  | [_] => True
  | a :: b :: r => b ∈ kf a ∧ isWayL kf (b :: r)
def placeL (kf : Nat → List Nat) (to : Nat) : List Nat → Int
  | a :: b :: r => aheadW (way kf to) (kf a) b + placeL kf to (b :: r)
  | _ => 0
section
variable {kf : Nat → List Nat} (hd : ∀ u c, c ∈ kf u → c < u) (ha : ∀ u, (kf u).Pairwise (· < ·))
include hd ha
theorem way_above {to k : Nat} (h : k < to) : way kf to k = 0 := by
  induction k using Nat.strongRecOn with
  | ind k ih =>
    rw [way_rec (hd k), if_neg (by omega), Int.add_zero]
    have : ∀ c ∈ kf k, way kf to c = 0 := fun c hc => ih c (hd k c hc) (by have := hd k c hc; omega)
    rw [List.map_congr_left this]
    generalize kf k = ks
    induction ks with
    | nil => rfl
    | cons _ r ih2 =>
      rw [List.map_cons, List.sum_cons]
      simpa using ih2
theorem way_to {to : Nat} : way kf to to = 1 := by
  rw [way_rec (hd to), if_pos rfl]
  have : ∀ c ∈ kf to, way kf to c = 0 := fun c hc => way_above hd ha (hd to c hc)
  rw [List.map_congr_left this]
  have e : ∀ ks : List Nat, (ks.map fun _ => (0 : Int)).sum = 0 := fun ks => by
    induction ks with
    | nil => rfl
    | cons _ r ih2 =>
      rw [List.map_cons, List.sum_cons, ih2]
      rfl
  rw [e]
  rfl
theorem wayN_cons {to n k : Nat} {p : Int} : ∃ r, wayN kf to n k p = k :: r := by
  cases n with
  | zero => exact ⟨[], rfl⟩
  | succ n =>
    unfold wayN
    split
    · exact ⟨[], rfl⟩
    · exact ⟨_, rfl⟩
theorem choose_kid {to k : Nat} {p : Int} (hn : k ≠ to) (h0 : 0 ≤ p) (h1 : p < way kf to k) :
    (chooseW (way kf to) (kf k) p).1 ∈ kf k ∧ 0 ≤ (chooseW (way kf to) (kf k) p).2 ∧ (chooseW (way kf to) (kf k) p).2 < way kf to (chooseW (way kf to) (kf k) p).1 ∧ p = aheadW (way kf to) (kf k) (chooseW (way kf to) (kf k) p).1 + (chooseW (way kf to) (kf k) p).2 := by
  rw [way_rec (hd k), if_neg hn, Int.add_zero] at h1
  exact chooseW_ok (fun k => way_nn hd k) (ha k) h0 h1
theorem wayN_ok {to : Nat} : ∀ {n k : Nat} {p : Int}, k ≤ n → 0 ≤ p → p < way kf to k → isWayL kf (wayN kf to n k p) ∧ (wayN kf to n k p).getLast? = some to ∧ placeL kf to (wayN kf to n k p) = p
  | 0, k, p, hk, h0, h1 => by
    have e : k = 0 := by omega
    subst e
    by_cases z : 0 = to
    · subst z
      rw [way_to hd ha] at h1
      exact ⟨trivial, rfl, by show (0 : Int) = p; omega⟩
    · rw [way_above hd ha (by omega)] at h1
      omega
  | n + 1, k, p, hk, h0, h1 => by
    unfold wayN
    by_cases z : k = to
    · subst z
      rw [if_pos rfl]
      rw [way_to hd ha] at h1
      exact ⟨trivial, rfl, by show (0 : Int) = p; omega⟩
    · rw [if_neg z]
      obtain ⟨c1, c2, c3, c4⟩ := choose_kid hd ha z h0 h1
      generalize chooseW (way kf to) (kf k) p = cp at c1 c2 c3 c4
      obtain ⟨c, q⟩ := cp
      have hck := hd k c c1
      obtain ⟨i1, i2, i3⟩ := wayN_ok (n := n) (k := c) (p := q) (by omega) c2 c3
      obtain ⟨r, er⟩ := wayN_cons hd ha (to := to) (n := n) (k := c) (p := q)
      show isWayL kf (k :: wayN kf to n c q) ∧ (k :: wayN kf to n c q).getLast? = some to ∧ placeL kf to (k :: wayN kf to n c q) = p
      rw [er] at i1 i2 i3 ⊢
      refine ⟨⟨c1, i1⟩, by rw [List.getLast?_cons_cons]; exact i2, ?_⟩
      show aheadW (way kf to) (kf k) c + placeL kf to (c :: r) = p
      rw [i3]
      exact c4.symm
theorem wayN_lt {to : Nat} : ∀ {n k : Nat} {p q : Int}, k ≤ n → 0 ≤ p → p < q → q < way kf to k → HT.lexLt ((wayN kf to n k p).map fun (x : Nat) => (x : Int)) ((wayN kf to n k q).map fun (x : Nat) => (x : Int)) = true
  | 0, k, p, q, hk, h0, h1, h2 => by
    have e : k = 0 := by omega
    subst e
    by_cases z : 0 = to
    · subst z
      rw [way_to hd ha] at h2
      omega
    · rw [way_above hd ha (by omega)] at h2
      omega
  | n + 1, k, p, q, hk, h0, h1, h2 => by
    have z : k ≠ to := by
      rintro rfl
      rw [way_to hd ha] at h2
      omega
    unfold wayN
    rw [if_neg z, if_neg z]
    obtain ⟨c1, c2, c3, c4⟩ := choose_kid hd ha z h0 (show p < way kf to k by omega)
    obtain ⟨d1, d2, d3, d4⟩ := choose_kid hd ha z (show 0 ≤ q by omega) h2
    generalize chooseW (way kf to) (kf k) p = cp at c1 c2 c3 c4
    generalize chooseW (way kf to) (kf k) q = cq at d1 d2 d3 d4
    obtain ⟨c, p'⟩ := cp
    obtain ⟨d, q'⟩ := cq
    have c1 : c ∈ kf k := c1
    have d1 : d ∈ kf k := d1
    have c3 : p' < way kf to c := c3
    have d2 : 0 ≤ q' := d2
    have c2 : 0 ≤ p' := c2
    have d3 : q' < way kf to d := d3
    have c4 : p = aheadW (way kf to) (kf k) c + p' := c4
    have d4 : q = aheadW (way kf to) (kf k) d + q' := d4
    show HT.lexLt (((k :: wayN kf to n c p')).map fun (x : Nat) => (x : Int)) ((k :: wayN kf to n d q').map fun (x : Nat) => (x : Int)) = true
    rw [List.map_cons, List.map_cons, HT.lexLt_cons, if_pos rfl]
    have hck := hd k c c1
    rcases Nat.lt_trichotomy c d with y | y | y
    · obtain ⟨r, er⟩ := wayN_cons hd ha (to := to) (n := n) (k := c) (p := p')
      obtain ⟨r2, er2⟩ := wayN_cons hd ha (to := to) (n := n) (k := d) (p := q')
      rw [er, er2, List.map_cons, List.map_cons, HT.lexLt_cons, if_neg (by omega)]
      exact decide_eq_true (by omega)
    · subst y
      exact wayN_lt (n := n) (by omega) c2 (by omega) d3
    · have := ahead_add (f := way kf to) (fun k => way_nn hd k) (ha k) d1 y
      omega
theorem placeL_lt {to : Nat} : ∀ {w : List Nat} {k : Nat}, isWayL kf (k :: w) → (k :: w).getLast? = some to → 0 ≤ placeL kf to (k :: w) ∧ placeL kf to (k :: w) < way kf to k
  | [], k, _, h => by
    have e : k = to := by simpa using h
    subst e
    rw [way_to hd ha]
    exact ⟨Int.le_refl 0, by show (0 : Int) < 1; decide⟩
  | b :: r, k, h, hl => by
    rw [List.getLast?_cons_cons] at hl
    obtain ⟨i1, i2⟩ := placeL_lt (w := r) (k := b) h.2 hl
    have h1 := aheadW_nn (f := way kf to) (fun k => way_nn hd k) (ks := kf k) (c := b)
    have h2 := ahead_sum (f := way kf to) (fun k => way_nn hd k) (ha k) h.1
    have h3 := way_rec (to := to) (hd k)
    show 0 ≤ aheadW (way kf to) (kf k) b + placeL kf to (b :: r) ∧ aheadW (way kf to) (kf k) b + placeL kf to (b :: r) < way kf to k
    refine ⟨by omega, ?_⟩
    rw [h3]
    split <;> omega
end
/-- to a leaf there are at most so many ways -/
theorem way_leaf_le {l : Nat} {inner : List (List Nat)} (A : Asc l inner) {x : Nat} (hx : x < l) : ∀ j, way (kidsAt l inner) x (l + j) ≤ ((2 ^ j : Nat) : Int) := by
  have hd : ∀ u c, c ∈ kidsAt l inner u → c < u := fun u c h => (kidsAt_lt A.raw h).2
  have hn : ∀ k, 0 ≤ way (kidsAt l inner) x k := fun k => way_nn hd k
  have hlf : ∀ k, k < l → way (kidsAt l inner) x k = if k = x then 1 else 0 := fun k hk => by
    rw [way_rec (hd k), show kidsAt l inner k = [] from if_pos hk]
    simp
  -- the sum over all kinds below
  have hsub : ∀ (n : Nat) (ks : List Nat), ks.Pairwise (· < ·) → (∀ c ∈ ks, c < n) → (ks.map (way (kidsAt l inner) x)).sum ≤ ((List.range n).map (way (kidsAt l inner) x)).sum := fun n => by
    induction n with
    | zero =>
      intro ks _ h
      cases ks with
      | nil => exact Int.le_refl _
      | cons c r => exact absurd (h c (List.mem_cons_self ..)) (by omega)
    | succ n ih =>
      intro ks hp h
      rw [List.range_succ, List.map_append, List.sum_append]
      have h9 : ([n].map (way (kidsAt l inner) x)).sum = way (kidsAt l inner) x n := by simp
      rw [h9]
      rcases List.eq_nil_or_concat ks with rfl | ⟨r, c, rfl⟩
      · have := ih [] List.Pairwise.nil (fun c hc => by cases hc)
        have := hn n
        simp only [List.map_nil, List.sum_nil] at *
        omega
      · rw [List.concat_eq_append] at hp h ⊢
        obtain ⟨p1, _, p3⟩ := List.pairwise_append.mp hp
        by_cases z : c = n
        · subst z
          rw [List.map_append, List.sum_append]
          have h8 : ([c].map (way (kidsAt l inner) x)).sum = way (kidsAt l inner) x c := by simp
          rw [h8]
          have := ih r p1 fun a ha => p3 a ha c (by simp)
          omega
        · have := ih (r ++ [c]) hp fun a ha => by
            have h1 := h a ha
            rcases List.mem_append.mp ha with ha | ha
            · have := p3 a ha c (by simp)
              have := h c (by simp)
              omega
            · have := List.mem_singleton.mp ha
              subst this
              omega
          have := hn n
          omega
  have hls : ∀ n, n ≤ l → ((List.range n).map (way (kidsAt l inner) x)).sum ≤ 1 ∧ (n ≤ x → ((List.range n).map (way (kidsAt l inner) x)).sum = 0) := fun n => by
    induction n with
    | zero => exact fun _ => ⟨by simp, fun _ => rfl⟩
    | succ n ih =>
      intro hn'
      obtain ⟨i1, i2⟩ := ih (by omega)
      rw [List.range_succ, List.map_append, List.sum_append]
      have h9 : ([n].map (way (kidsAt l inner) x)).sum = way (kidsAt l inner) x n := by simp
      rw [h9, hlf n (by omega)]
      by_cases z : n = x
      · rw [if_pos z]
        have := i2 (by omega)
        exact ⟨by omega, fun y => by omega⟩
      · rw [if_neg z]
        exact ⟨by omega, fun y => by have := i2 (by omega); omega⟩
  have hall : ∀ j, ((List.range (l + j)).map (way (kidsAt l inner) x)).sum ≤ ((2 ^ j : Nat) : Int) := fun j => by
    induction j with
    | zero => exact (hls l (Nat.le_refl l)).1
    | succ j ih =>
      rw [show l + (j + 1) = (l + j) + 1 by omega, List.range_succ, List.map_append, List.sum_append]
      have h9 : ([l + j].map (way (kidsAt l inner) x)).sum = way (kidsAt l inner) x (l + j) := by simp
      rw [h9]
      have h1 := hsub (l + j) (kidsAt l inner (l + j)) (A.at _) fun c hc => hd _ c hc
      have h2 : way (kidsAt l inner) x (l + j) = ((kidsAt l inner (l + j)).map (way (kidsAt l inner) x)).sum := by
        rw [way_rec (hd _), if_neg (by omega), Int.add_zero]
      have h3 : (2 ^ (j + 1) : Nat) = 2 ^ j + 2 ^ j := by rw [Nat.pow_succ]; omega
      omega
  intro j
  have h1 := hsub (l + j) (kidsAt l inner (l + j)) (A.at _) fun c hc => hd _ c hc
  have h2 : way (kidsAt l inner) x (l + j) = ((kidsAt l inner (l + j)).map (way (kidsAt l inner) x)).sum := by
    rw [way_rec (hd _), if_neg (by omega), Int.add_zero]
  have := hall j
  omega
theorem way_leaf_mil {l : Nat} {inner : List (List Nat)} (A : Asc l inner) {x k : Nat} (hx : x < l) (hk : k < l + inner.length) : way (kidsAt l inner) x k ≤ 1000000 := by
  have h20 := A.raw.n20
  by_cases z : k < l
  · rw [way_rec (fun c hc => (kidsAt_lt A.raw hc).2), show kidsAt l inner k = [] from if_pos z]
    split <;> simp
  · have := way_leaf_le A hx (k - l)
    rw [show l + (k - l) = k by omega] at this
    have h3 : 2 ^ (k - l) ≤ 2 ^ 19 := Nat.pow_le_pow_right (by decide) (by omega)
    have h4 : (2 : Nat) ^ 19 ≤ 1000000 := by decide
    generalize (2 : Nat) ^ (k - l) = a at this h3
    omega
end WR
set_option Elab.async false
set_option linter.all false
set_option maxRecDepth 100000
set_option maxHeartbeats 1000000
namespace WR
open PySem PySem.Spec PyProof.Rows L2 Evl

/-! ### comprehensions over numbers, tuples of numbers compared, zip -/
section
variable {K : PySem.W.Frag} {σ : L2.St} {H : Hp} {ta tb te : TE} {t : TT} {wi : TI} {j : Nat} {vs : List Nat}
theorem et_yes : EvT tYes σ H true := fun H1 _ _ q => q H1 (Ex.refl H1)
theorem fm_fil {ks : List Nat} {b : Nat → Bool} {g : Nat → PyData} {f : PyData → Option PyData} (h : ∀ k ∈ ks, f (natD k) = if b k = true then some (g k) else none) : (natDs ks).filterMap f = (ks.filter b).map g := by
  induction ks with
  | nil => rfl
  | cons k r ih =>
    show ((natD k) :: natDs r).filterMap f = _
    rw [List.filterMap_cons, h k (List.mem_cons_self ..), List.filter_cons]
    have := ih fun x hx => h x (List.mem_cons_of_mem _ hx)
    cases e : b k with
    | true => simp [this]
    | false => simp [this]
theorem en_natFil {ks : List Nat} (b : Nat → Bool) (g : Nat → PyData) (h : Src K wi σ H (natDs ks)) (hl : ks.length ≤ 40000) (hw : ∀ x, wipe ((wipe σ vs).set j (some x)) vs = wipe σ vs)
    (ht : ∀ k H1, Ex H H1 → k ∈ ks → EvT t ((wipe σ vs).set j (some (nV k))) H1 (b k))
    (hv : ∀ k H1, Ex H H1 → k ∈ ks → b k = true → EvD K te ((wipe σ vs).set j (some (nV k))) H1 (g k))
    (hg : ∀ k ∈ ks, b k = true → nl (g k) = true) : EvN K (tLc wi (gName j) t te vs) σ H ((ks.filter b).map g) := by
  let f : PyData → Option PyData := fun d => match d with | .int i => if b i.toNat = true then some (g i.toNat) else none | _ => none
  have hf : ∀ k : Nat, f (natD k) = if b k = true then some (g k) else none := fun k => by
    show (if b ((k : Int)).toNat = true then some (g ((k : Int)).toNat) else none) = _
    rw [Int.toNat_natCast]
  have q := en_lc (K := K) (t := t) (te := te) (j := j) (vs := vs) f h (by unfold natDs; rw [List.length_map]; exact hl) hw (fun d v H1 e hd hv => by
      obtain ⟨i, hi, rfl⟩ := List.mem_map.mp hd
      rw [hf]
      cases dp_int hv
      refine et_is (ht i H1 e hi) ?_
      cases b i with
      | true => rfl
      | false => rfl) (fun d r v H1 e hd hv2 hr => by
      obtain ⟨i, hi, rfl⟩ := List.mem_map.mp hd
      rw [hf] at hr
      split at hr
      · rename_i hb
        cases hr
        cases dp_int hv2
        exact hv i H1 e hi hb
      · cases hr) fun d r hd hr => by
      obtain ⟨i, hi, rfl⟩ := List.mem_map.mp hd
      rw [hf] at hr
      split at hr
      · rename_i hb
        cases hr
        exact hg i hi hb
      · cases hr
  rw [fm_fil (b := b) (g := g) fun k _ => hf k] at q
  exact q
theorem en_natMap {ks : List Nat} (g : Nat → PyData) (h : Src K wi σ H (natDs ks)) (hl : ks.length ≤ 40000) (hw : ∀ x, wipe ((wipe σ vs).set j (some x)) vs = wipe σ vs)
    (hv : ∀ k H1, Ex H H1 → k ∈ ks → EvD K te ((wipe σ vs).set j (some (nV k))) H1 (g k))
    (hg : ∀ k ∈ ks, nl (g k) = true) : EvN K (tLc wi (gName j) tYes te vs) σ H (ks.map g) := by
  have q := en_natFil (K := K) (t := tYes) (te := te) (fun _ => true) g h hl hw (fun _ _ _ _ => et_yes) (fun k H1 e hk _ => hv k H1 e hk) (fun k hk _ => hg k hk)
  rw [List.filter_eq_self.mpr fun _ _ => rfl] at q
  exact q
theorem rng_nats {n : Nat} : rngD 0 n = natDs (List.range n) := by
  unfold rngD natDs
  refine List.map_congr_left fun k _ => ?_
  show PyData.int ((0 : Int) + (k : Int)) = .int (k : Int)
  rw [Int.zero_add]
theorem rng_natsLo {lo n : Nat} : rngD (lo : Int) n = natDs ((List.range n).map fun k => lo + k) := by
  unfold rngD natDs
  rw [List.map_map]
  refine List.map_congr_left fun k _ => ?_
  show PyData.int ((lo : Int) + (k : Int)) = .int ((lo + k : Nat) : Int)
  rw [Int.natCast_add]
/-- range(n) -/
theorem src_rng {ta : TA} {n : Nat} (h : EvA ta σ H [.int (n : Int)]) (h1 : n ≤ 40000) : Src K (iRng1 ta) σ H (natDs (List.range n)) := by
  have q := srcS_R1 (K := K) (σ := σ) (H := H) (n := (n : Int)) h (by omega)
  rw [Int.toNat_natCast, rng_nats] at q
  exact q.src
theorem srcS_rng {ta : TA} {n : Nat} (h : EvA ta σ H [.int (n : Int)]) (h1 : n ≤ 40000) : SrcS K (iRng1 ta) σ H (rngD 0 n) := by
  have q := srcS_R1 (K := K) (σ := σ) (H := H) (n := (n : Int)) h (by omega)
  rw [Int.toNat_natCast] at q
  exact q
theorem natDs_mem {d : PyData} {ks : List Nat} (h : d ∈ natDs ks) : ∃ k ∈ ks, d = natD k := by
  obtain ⟨k, hk, rfl⟩ := List.mem_map.mp h
  exact ⟨k, hk, rfl⟩
theorem natDs_at {i : Nat} {d : PyData} {ks : List Nat} (h : (natDs ks)[i]? = some d) : ∃ k, ks[i]? = some k ∧ d = natD k := by
  unfold natDs at h
  rw [List.getElem?_map] at h
  obtain ⟨k, hk, rfl⟩ := Option.map_eq_some_iff.mp h
  exact ⟨k, hk, rfl⟩
/-! tuples of integers compared -/
theorem eqvAll_ints : ∀ a b : List Int, PyData.eqvAll (a.map PyData.int) (b.map PyData.int) = decide (a = b)
  | [], [] => by simp [PyData.eqvAll]
  | [], _ :: _ => by simp [PyData.eqvAll]
  | _ :: _, [] => by simp [PyData.eqvAll]
  | x :: a, y :: b => by
    have := eqvAll_ints a b
    simp only [List.map_cons, PyData.eqvAll, PyData.eqv, this, List.cons.injEq]
    by_cases h1 : x = y <;> by_cases h2 : a = b <;> simp [h1, h2]
theorem eqv_tupI (a b : List Int) : PyData.eqv (tupI a) (tupI b) = decide (a = b) := by
  show PyData.eqv (.tuple _) (.tuple _) = _
  simp only [PyData.eqv]
  exact eqvAll_ints a b
theorem shaped_tupI (a : List Int) : SeqAt.shaped (tupI a) = true := by
  have q := lay_ints a
  show (PyData.canLay0 _ && decide (PyData.depth _ ≤ 64)) = true
  unfold tupI
  simp only [PyData.canLay0, PyData.depth, q.1, q.2]
  decide
theorem kidsD_tupI (ks : List Nat) : kidsD ks = tupI (ks.map fun (k : Nat) => (k : Int)) := by
  unfold tupI
  rw [List.map_map]
  rfl
theorem ev_eqTI {a b : List Int} (h1 : EvD K ta σ H (tupI a)) (h2 : EvD K tb σ H (tupI b)) : Ev (tOp (rEqD K) ta tb) σ H (.bl (decide (a = b))) := fun H1 e Q q =>
  h1 H1 e _ fun v H2 e2 hv => h2 H2 (e.trans e2) _ fun w H3 e3 hw => ⟨tupI a, tupI b, dp_ex e3 _ hv, hw, shaped_tupI a, shaped_tupI b, by
    rw [eqv_tupI]
    exact q _ (e2.trans e3)⟩
theorem ev_neTI {a b : List Int} (h1 : EvD K ta σ H (tupI a)) (h2 : EvD K tb σ H (tupI b)) : Ev (tOp (rNeD K) ta tb) σ H (.bl (!decide (a = b))) := fun H1 e Q q =>
  h1 H1 e _ fun v H2 e2 hv => h2 H2 (e.trans e2) _ fun w H3 e3 hw => ⟨tupI a, tupI b, dp_ex e3 _ hv, hw, shaped_tupI a, shaped_tupI b, by
    rw [eqv_tupI]
    exact q _ (e2.trans e3)⟩
theorem ints_nats {a b : List Nat} : (a.map fun (k : Nat) => (k : Int)) = (b.map fun (k : Nat) => (k : Int)) ↔ a = b := by
  constructor
  · intro h
    have := congrArg (List.map Int.toNat) h
    simp only [List.map_map] at this
    have e : ∀ l : List Nat, l.map (Int.toNat ∘ fun (k : Nat) => (k : Int)) = l := fun l => by
      conv => rhs; rw [← List.map_id l]
      exact List.map_congr_left fun k _ => Int.toNat_natCast k
    rw [e, e] at this
    exact this
  · exact fun h => by rw [h]
theorem ev_eqK {a b : List Nat} (h1 : EvD K ta σ H (kidsD a)) (h2 : EvD K tb σ H (kidsD b)) : Ev (tOp (rEqD K) ta tb) σ H (.bl (decide (a = b))) := by
  rw [kidsD_tupI] at h1 h2
  refine ev_is (ev_eqTI h1 h2) ?_
  congr 1
  exact decide_eq_decide.mpr ints_nats
theorem ev_neK {a b : List Nat} (h1 : EvD K ta σ H (kidsD a)) (h2 : EvD K tb σ H (kidsD b)) : Ev (tOp (rNeD K) ta tb) σ H (.bl (!decide (a = b))) := by
  rw [kidsD_tupI] at h1 h2
  refine ev_is (ev_neTI h1 h2) ?_
  congr 2
  exact decide_eq_decide.mpr ints_nats
/-! [1 for a, b in zip(x, y) if ..] over tuples of integers -/
theorem walk_zipTh {K : PySem.W.Frag} {a b : Addr} {xs ys : List V} {n : Nat} (hn : n = min xs.length ys.length) : Walk (RZ.ItzT K a b) n (fun H => SqT K H a xs ∧ SqT K H b ys) (YPair (fun i => xs[i]?) (fun i => ys[i]?)) := by
  subst hn
  refine ⟨fun i _ hi q => ?_, fun _ q => ⟨xs, ys, q.1, q.2, by omega⟩, fun i H v H' _ q y => ?_⟩
  · have h1 : i < xs.length := by omega
    have h2 : i < ys.length := by omega
    exact ⟨xs, ys, xs[i], ys[i], q.1, q.2, by simp [h1], by simp [h2]⟩
  · obtain ⟨T, x, z, h1, h2, h3, h4, h5⟩ := y
    exact ⟨T, x, z, h1, h2, h3, h4 xs q.1, h5 ys q.2⟩
def zipOk (b : Int → Int → Bool) (xs ys : List Int) : Bool := (xs.zip ys).all fun p => !b p.1 p.2
theorem zipOk_iff {b : Int → Int → Bool} {xs ys : List Int} : zipOk b xs ys = true ↔ ∀ (i : Nat) (x y : Int), xs[i]? = some x → ys[i]? = some y → b x y = false := by
  unfold zipOk
  rw [List.all_eq_true]
  constructor
  · intro h i x y hx hy
    have := h (x, y) (List.mem_of_getElem? (i := i) (List.getElem?_zip_eq_some.mpr ⟨hx, hy⟩))
    simpa using this
  · intro h p hp
    obtain ⟨i, hi, e⟩ := List.mem_iff_getElem.mp hp
    have e2 : (xs.zip ys)[i]? = some (p.1, p.2) := by rw [List.getElem?_eq_getElem hi, e]
    obtain ⟨h1, h2⟩ := List.getElem?_zip_eq_some.mp e2
    rw [h i _ _ h1 h2]
    rfl
theorem et_zipNone {i j : Nat} {vs : List Nat} {xs ys : List Int} (b : Int → Int → Bool) (h1 : EvD K ta σ H (tupI xs)) (h2 : EvD K tb σ H (tupI ys)) (hn : xs.length ≤ 40000) (hw : ∀ x y, wipe (((wipe σ vs).set i (some x)).set j (some y)) vs = wipe σ vs)
    (ht : ∀ (a c : Int) H1, Ex H H1 → EvT t (((wipe σ vs).set i (some (.int a))).set j (some (.int c))) H1 (b a c)) :
    Ev (tOp (rEqD K) (tLc (RZ.iZipA K (tCons ta (tCons tb tNil))) (gTup K 2 (gCons (gName i) (gCons (gName j) gNil))) t (tC (.int 1)) vs) (tLst tNil)) σ H (.bl (zipOk b xs ys)) := fun H1 e Q q =>
  h1 H1 e _ fun v H2 e2 hv => h2 H2 (e.trans e2) _ fun w H3 e3 hw' => by
    obtain ⟨a, xa, rfl, hsx, hdx⟩ := dp_tup (dp_ex e3 _ hv)
    obtain ⟨c, yb, rfl, hsy, hdy⟩ := dp_tup hw'
    have hdx : DpAll K H3 xa (xs.map PyData.int) := hdx
    have hdy : DpAll K H3 yb (ys.map PyData.int) := hdy
    rw [ints_of hdx] at hsx
    rw [ints_of hdy] at hsy
    refine ⟨a, c, xs.map V.int, ys.map V.int, rfl, .inr ⟨hsx, hsy, fun Dl hD => ?_⟩⟩
    refine lc_it (walk_zipTh (K := K) (a := a) (b := c) (xs := xs.map V.int) (ys := ys.map V.int) rfl) (fun m H' => Ex H3 H' ∧ ∃ k : Nat, H' Dl = some (.lst (List.replicate k (V.int 1))) ∧ k ≤ m ∧ (k = 0 ↔ ∀ i : Nat, i < m → ∀ x y : Int, xs[i]? = some x → ys[i]? = some y → b x y = false)) ⟨Ex.new hD, 0, upd_same, Nat.le_refl 0, by simp⟩ (fun m H' _ p => ⟨ex_t p.1 hsx, ex_t p.1 hsy⟩) (fun m x H' H'' hm p hy => ?_) (fun H' p => ?_)
    · obtain ⟨T, x1, y1, rfl, hT, rfl, hx1, hy1⟩ := hy
      simp only [List.getElem?_map] at hx1 hy1
      obtain ⟨x0, hx0, rfl⟩ := Option.map_eq_some_iff.mp hx1
      obtain ⟨y0, hy0, rfl⟩ := Option.map_eq_some_iff.mp hy1
      have hml := (List.getElem?_eq_some_iff.mp hx0).1
      have en := Ex.new (o := .tup [V.int x0, V.int y0]) hT
      obtain ⟨p1, k, pk, pkm, pki⟩ := p
      refine ⟨T, _, rfl, st_of upd_same, rfl, _, _, rfl, _, _, rfl, rfl, hw _ _, ?_⟩
      refine ht x0 y0 _ (((e.trans e2).trans e3).trans (p1.trans en)) _ (Ex.refl _) _ fun H5 e5 => ?_
      have p5 := p1.trans (en.trans e5)
      have pk5 := (en.trans e5) _ _ pk
      cases hb : b x0 y0 with
      | false =>
        refine ⟨p5, k, pk5, by omega, pki.trans ⟨fun h i hi x y hx hy => ?_, fun h i hi => h i (by omega)⟩⟩
        by_cases z : i = m
        · subst z
          rw [hx0] at hx
          rw [hy0] at hy
          cases hx
          cases hy
          exact hb
        · exact h i (by omega) x y hx hy
      | true =>
        refine ⟨_, pk5, sz_lt (by rw [List.length_replicate]; omega), Ex.mut p5 hD, k + 1, by rw [upd_same, List.replicate_succ'], by omega, ⟨fun z => absurd z (by omega), fun h => ?_⟩⟩
        have := h m (by omega) x0 y0 hx0 hy0
        rw [hb] at this
        cases this
    · obtain ⟨p1, k, pk, pkm, pki⟩ := p
      have er : List.replicate k (V.int 1) = nVs (List.replicate k 1) := by
        unfold nVs
        rw [List.map_replicate]
        rfl
      rw [er] at pk
      refine ⟨by show 0 ≤ sizeLine; decide, fun l hl => ⟨.list (natDs (List.replicate k 1)), .list [], .lst (sq_of (Ex.new hl _ _ pk)) (dpAll_nat _), .lst (sq_of upd_same) .nil, shaped_nats _, shaped_nats [], ?_⟩⟩
      rw [eqv_nats_nil, show (List.replicate k 1).isEmpty = zipOk b xs ys from ?_]
      · exact q _ ((e2.trans e3).trans (p1.trans (Ex.new hl)))
      · rw [Bool.eq_iff_iff, List.isEmpty_iff, zipOk_iff, ← List.length_eq_zero_iff, List.length_replicate, pki]
        constructor
        · intro h i x y hx hy
          refine h i ?_ x y hx hy
          have h1 := (List.getElem?_eq_some_iff.mp hx).1
          have h2 := (List.getElem?_eq_some_iff.mp hy).1
          rw [List.length_map, List.length_map]
          omega
        · exact fun h i _ x y hx hy => h i x y hx hy
theorem nl_webA (l : Nat) (inner : List (List Nat)) : nl (webD l inner) = true := by
  show (true && (nlAll (inner.map kidsD) && true)) = true
  rw [nl_kidsDs]
  rfl
/-- for x in data: .. -/
theorem s_forD {D : Ends} {tu : TS} {ds : List PyData} (h : Src K wi σ H ds) (Pv : Hp → Nat → L2.St → Hp → Prop) (h0 : ∀ H1, Ex H H1 → Pv H1 0 σ H1) (hG : ∀ H2 i σ' H', Pv H2 i σ' H' → Ex H2 H')
    (hs : ∀ H2 i d x σ' H', Ex H H2 → ds[i]? = some d → Dp K H' x d → Pv H2 i σ' H' → tu { D with nx := Pv H2 (i + 1), ct := Pv H2 (i + 1), bk := D.nx } (σ'.set j (some x)) H') (hd : ∀ H2 σ' H', Ex H H2 → Pv H2 ds.length σ' H' → D.nx σ' H') :
    tFor wi (gName j) tu D σ H := h H (Ex.refl H) _ fun J H2 G e2 hg w =>
  for_it w (D := D) (Pv H2) (h0 H2 e2) (fun i σ' H' _ p => hg H' (hG H2 i σ' H' p)) (fun i x σ' Hc H' hi p hy => by
    obtain ⟨rfl, d, h1, h2⟩ := hy
    exact hs H2 i d x σ' H' e2 h1 h2 p) fun σ' H' p => hd H2 σ' H' e2 p
/-! a draw: what stands stays -/
theorem Bs.rfl {dk L : Addr} {ns : List Int} {N : Int} (h : Dk H dk L ns N) : Bs H H dk L ns N := by
  obtain ⟨a, b, n, d, hn⟩ := h
  exact ⟨rem_ex, ⟨a, b, n, d, hn⟩, ⟨_, d.at_⟩, ⟨_, d.ls⟩⟩
theorem Bs.tr {H1 H2 H3 : Hp} {dk L : Addr} {ns : List Int} {N M : Int} (a : Bs H1 H2 dk L ns N) (b : Bs H2 H3 dk L ns M) : Bs H1 H3 dk L ns M := ⟨rem_trans a.ex b.ex, b.deck, a.bdk, a.bL⟩
theorem Bs.at {H1 H2 : Hp} {dk L : Addr} {ns : List Int} {N M : Int} (hD : Dk H1 dk L ns N) (b : Bs H1 H2 dk L ns M) {v : V} {d : PyData} (n : nl d = true) (h : Dp K H1 v d) : Dp K H2 v d := by
  obtain ⟨x, y, z, dd, _⟩ := hD
  exact dp_ex b.ex _ (dp_rem dd.at_ _ n h)
theorem Bs.ld {H1 H2 : Hp} {dk L p : Addr} {ns : List Int} {N M : Int} (hD : Dk H1 dk L ns N) (b : Bs H1 H2 dk L ns M) (hp : p ≠ dk) {ds : List PyData} (n : nlAll ds = true) (h : LD K H1 p ds) : LD K H2 p ds := by
  obtain ⟨xs, h1, h2⟩ := h
  obtain ⟨x, y, z, dd, _⟩ := hD
  exact ⟨xs, b.ex _ _ (by rw [rem_ne hp]; exact h1), dpAll_ex b.ex _ (dpAll_rem dd.at_ _ n h2)⟩
theorem Dk.ne {dk L p : Addr} {ns : List Int} {N : Int} (h : Dk H dk L ns N) (hp : H p = none) : p ≠ dk := fun z => by
  obtain ⟨a, b, n, d, _⟩ := h
  rw [z, d.at_] at hp
  cases hp
/-- draw(deck, m) as a value -/
def EvR (te : TE) (σ : L2.St) (H : Hp) (p L : Addr) (ns : List Int) (N : Int) (m : Nat) : Prop := ∀ H1, Ex H H1 → ∀ Q : VK, (∀ (r : Nat) H2, r < m → Bs H1 H2 p L ns (N + 1) → Q (nV r) H2) → te σ H1 Q
theorem ev_draw {p L : Addr} {ns : List Int} {m : Nat} {N : Int} {E : XK} (h : Ev ta σ H (.ref p)) (hm : Ev tb σ H (nV m)) (hD : Dk H p L ns N) (hN : N ≤ 1000000000) (h1 : 1 ≤ m) (h2 : m ≤ 1000000) :
    EvR (tCall spDraw [] E (tCons ta (tCons tb tNil))) σ H p L ns N m := fun H0 e0 Q q =>
  h H0 e0 _ fun H1 e1 => hm H1 (e0.trans e1) _ fun H2 e2 => ⟨p, L, ns, m, N, Eq.refl _, hD.ex (e0.trans (e1.trans e2)), hN, by omega, by omega, fun r H3 hr0 hr1 e3 hD3 => by
    obtain ⟨r, rfl⟩ : ∃ k : Nat, r = (k : Int) := ⟨r.toNat, by omega⟩
    have b : Bs H2 H3 p L ns (N + 1) := by
      obtain ⟨a, b, n, d, _⟩ := hD.ex (e0.trans (e1.trans e2))
      exact ⟨e3, hD3, ⟨_, d.at_⟩, ⟨_, d.ls⟩⟩
    have b0 := ((Bs.rfl (hD.ex e0)).more (e1.trans e2)).tr b
    exact q r H3 (by omega) b0⟩
theorem q_drawV {D : Ends} {tz : TS} {i : Nat} {p L : Addr} {ns : List Int} {m : Nat} {N : Int} (h : EvR te σ H p L ns N m)
    (k : ∀ (r : Nat) H1, r < m → Bs H H1 p L ns (N + 1) → tz D (σ.set i (some (nV r))) H1) : tSeq (tAsg te (gName i)) tz D σ H := h H (Ex.refl H) _ k
end
end WR
set_option Elab.async false
set_option linter.all false
set_option maxRecDepth 100000
set_option maxHeartbeats 1000000
namespace WR
open PySem PySem.Spec PyProof.Rows L2 Evl

/-! ### [.. for i in range(n) for c in tuple if ..] -/
section
variable {K : PySem.W.Frag} {σ : L2.St} {H : Hp} {tl te : TE} {t : TT}
def flatK (ks : Nat → List Nat) (b : Nat → Nat → Bool) (g : Nat → Nat → PyData) (m : Nat) : List PyData := (List.range m).flatMap fun i => ((ks i).filter (b i)).map (g i)
theorem flatK_succ {ks : Nat → List Nat} {b : Nat → Nat → Bool} {g : Nat → Nat → PyData} {m : Nat} : flatK ks b g (m + 1) = flatK ks b g m ++ ((ks m).filter (b m)).map (g m) := by
  unfold flatK
  rw [List.range_succ, List.flatMap_append]
  simp
theorem flatK_len {ks : Nat → List Nat} {b : Nat → Nat → Bool} {g : Nat → Nat → PyData} : ∀ m, (∀ i, i < m → (ks i).length ≤ 30) → (flatK ks b g m).length ≤ 30 * m
  | 0, _ => Nat.zero_le _
  | m + 1, h => by
    rw [flatK_succ, List.length_append, List.length_map]
    have h1 := flatK_len (b := b) (g := g) m fun i hi => h i (by omega)
    have h2 := h m (by omega)
    have h3 := List.length_filter_le (b m) (ks m)
    omega
theorem en_lc2 {n j j1 : Nat} {vs vs1 : List Nat} {ta : TA} (ks : Nat → List Nat) (b : Nat → Nat → Bool) (g : Nat → Nat → PyData) (h : EvA ta σ H [.int (n : Int)]) (hn : n ≤ 1000)
    (hw : ∀ x, wipe ((wipe σ vs).set j (some x)) vs = wipe σ vs)
    (hw1 : ∀ i x, wipe ((wipe ((wipe σ vs).set j (some (nV i))) vs1).set j1 (some x)) vs1 = wipe ((wipe σ vs).set j (some (nV i))) vs1)
    (hl : ∀ i H1, Ex H H1 → i < n → EvD K tl ((wipe σ vs).set j (some (nV i))) H1 (kidsD (ks i))) (hlen : ∀ i, i < n → (ks i).length ≤ 30)
    (ht : ∀ i c H1, Ex H H1 → i < n → c ∈ ks i → EvT t ((wipe ((wipe σ vs).set j (some (nV i))) vs1).set j1 (some (nV c))) H1 (b i c))
    (he : ∀ i c H1, Ex H H1 → i < n → c ∈ ks i → b i c = true → EvD K te ((wipe ((wipe σ vs).set j (some (nV i))) vs1).set j1 (some (nV c))) H1 (g i c))
    (hg : ∀ i c, nl (g i c) = true) : EvN K (tLc2 (iRng1 ta) (gName j) tYes (iTup K tl) (gName j1) t te vs vs1) σ H (flatK ks b g n) := fun H1 e1 Q1 q1 => by
  have hfl : ∀ m, nlAll (flatK ks b g m) = true := fun m => nlAll_mem fun d hd => by
    obtain ⟨i, _, hi⟩ := List.mem_flatMap.mp hd
    obtain ⟨c, _, rfl⟩ := List.mem_map.mp hi
    exact hg i c
  unfold tLc2 iRng1
  refine h H1 e1 _ fun H2 e2 => ?_
  refine ⟨(n : Int), rfl, by omega, by omega, fun D hD => ?_⟩
  rw [Int.toNat_natCast]
  refine ⟨fun i m H' => m = n - i ∧ i ≤ n ∧ Ex H2 H' ∧ ∃ acc, H' D = some (.lst acc) ∧ DpAll K H' acc (flatK ks b g i), ⟨n, rfl, Nat.zero_le _, Ex.new hD, [], upd_same, .nil⟩, ?_⟩
  rintro i m H' ⟨rfl, hi, e3, acc, ha, hd⟩
  by_cases hlt : i < n
  · refine .inr ⟨hlt, fun H' => Ex H2 H' ∧ ∃ acc, H' D = some (.lst acc) ∧ DpAll K H' acc (flatK ks b g (i + 1)), fun H'' p => ⟨n - (i + 1), by omega, rfl, hlt, p⟩, fun x H'' y => ?_⟩
    obtain ⟨rfl, rfl⟩ := y
    rw [Int.zero_add]
    refine ⟨hw _, yes_ ?_⟩
    refine hl i H'' ((e1.trans e2).trans e3) hlt H'' (Ex.refl _) _ fun v2 H4 e4 hv4 => ?_
    have hln := hlen i hlt
    have hlk := flatK_len (ks := ks) (b := b) (g := g) i fun k hk => hlen k (by omega)
    obtain ⟨a, xs, rfl, hs, hdx⟩ := dp_tup hv4
    have hdx : DpAll K H4 xs (natDs (ks i)) := hdx
    rw [nats_of hdx] at hs
    rw [flatK_succ]
    have hti := fun c H1 e hc => ht i c H1 e hlt hc
    have hei := fun c H1 e hc hb => he i c H1 e hlt hc hb
    have hw1i := fun x => hw1 i x
    have hgi := fun c => hg i c
    generalize ks i = kl at hs hln hti hei ⊢
    generalize b i = bi at hti hei ⊢
    generalize g i = gi at hei hgi ⊢
    refine ⟨a, rfl, ⟨_, hs⟩, fun j k H5 => k = kl.length - j ∧ j ≤ kl.length ∧ Ex H2 H5 ∧ SqT K H5 a (nVs kl) ∧ ∃ acc, H5 D = some (.lst acc) ∧ DpAll K H5 acc (flatK ks b g i ++ ((kl.take j).filter bi).map gi),
      ⟨kl.length, rfl, Nat.zero_le _, e3.trans e4, hs, acc, e4 _ _ ha, by rw [List.take_zero, List.filter_nil, List.map_nil, List.append_nil]; exact dpAll_ex e4 _ hd⟩, ?_⟩
    rintro j' k H5 ⟨rfl, hj, e5, hs5, acc5, ha5, hd5⟩
    by_cases hjl : j' < kl.length
    · refine .inr ⟨⟨_, _, hs5, nVs_at (List.getElem?_eq_getElem hjl)⟩, fun H5 => Ex H2 H5 ∧ SqT K H5 a (nVs kl) ∧ ∃ acc, H5 D = some (.lst acc) ∧ DpAll K H5 acc (flatK ks b g i ++ ((kl.take (j' + 1)).filter bi).map gi), fun H6 p => ⟨kl.length - (j' + 1), by omega, rfl, hjl, p⟩, fun x H6 y => ?_⟩
      obtain ⟨rfl, y⟩ := y
      have hx := y _ hs5
      rw [nVs_at (List.getElem?_eq_getElem hjl)] at hx
      cases hx
      refine ⟨hw1i _, ?_⟩
      have hm : kl[j'] ∈ kl := List.getElem_mem _
      have htk : kl.take (j' + 1) = kl.take j' ++ [kl[j']] := by
        rw [List.take_add_one, List.getElem?_eq_getElem hjl]
        rfl
      have e15 : Ex H _ := (e1.trans e2).trans e5
      refine hti kl[j'] _ e15 hm _ (Ex.refl _) _ fun H7 e7 => ?_
      cases hb : bi kl[j'] with
      | false =>
        show Ex H2 H7 ∧ _
        refine ⟨e5.trans e7, ex_t e7 hs5, acc5, e7 _ _ ha5, ?_⟩
        rw [htk, List.filter_append, List.filter_cons, hb]
        simpa using dpAll_ex e7 _ hd5
      | true =>
        show te _ H7 _
        refine hei kl[j'] _ e15 hm hb H7 e7 _ fun y H8 e8 hy => ?_
        have e58 := e7.trans e8
        have ha8 := e58 _ _ ha5
        have hlen5 := dpAll_len hd5
        rw [List.length_append, List.length_map] at hlen5
        have hfl2 := List.length_filter_le bi (kl.take j')
        rw [List.length_take] at hfl2
        refine ⟨acc5, ha8, sz_lt (by omega), Ex.mut (e5.trans e58) hD, ex_tL ha8 (ex_t e58 hs5), acc5 ++ [y], upd_same, ?_⟩
        have ef : ((kl.take (j' + 1)).filter bi).map gi = ((kl.take j').filter bi).map gi ++ [gi kl[j']] := by
          rw [htk, List.filter_append, List.filter_cons, hb]
          simp
        rw [ef, ← List.append_assoc]
        have hall : nlAll (flatK ks b g i ++ ((kl.take j').filter bi).map gi) = true := nlAll_app (hfl i) (nlAll_mem fun d hd => by
          obtain ⟨c, _, rfl⟩ := List.mem_map.mp hd
          exact hgi c)
        exact dpAll_snoc (dpAll_updL ha8 _ hall (dpAll_ex e58 _ hd5)) (dp_updL ha8 _ (hgi _) hy)
    · have ej : j' = kl.length := by omega
      subst ej
      rw [List.take_length] at hd5
      exact .inl ⟨⟨_, hs5, by unfold nVs; rw [List.length_map]; exact Nat.le_refl _⟩, e5, acc5, ha5, hd5⟩
  · have ei : i = n := by omega
    subst ei
    exact .inl ⟨Nat.le_refl _, q1 D acc H' (fresh_back e2 hD) (e2.trans e3) ha hd⟩
end
end WR
set_option Elab.async false
set_option linter.all false
set_option maxRecDepth 100000
set_option maxHeartbeats 1000000
namespace WR
open PySem PySem.Spec PyProof.Rows L2 Evl
/-! ### the text -/
theorem scIsInt : FnScope ["value"] ["value"] (defScope sIsInt) := ⟨rfl, rfl, rfl, by decide +kernel, rfl, by decide +kernel, by decide +kernel⟩
theorem scBetw : FnScope ["value", "low", "high"] ["value", "low", "high"] (defScope sBetw) := ⟨rfl, rfl, rfl, by decide +kernel, rfl, by decide +kernel, by decide +kernel⟩

section
variable {P : Program} {w : World} {K : PySem.W.Frag} {mg : Str → Option Value} {base : Heap}
theorem ok_isInt {f : Addr} {fd : FuncData} (F : Fun K "is_integer" "is_integer" sIsInt f fd) (m1 : mg "isinstance" = none) (m2 : mg "int" = none) (m3 : mg "bool" = none) :
    FnOk P w K mg base CX0 1 f fd ["value"] (spD K (f1 fun d => some (.bool (isInt d)))) := by
  refine F.ok scIsInt (fun vs H Q E h => spD_len f1_len h) (fun cdv A outer s H vs Q E hr h => ?_)
  obtain ⟨v, d, r, rfl, hv, hf, q⟩ := sp1 h
  cases hf
  refine ⟨_, pss_one (ps_ret (pe_and
    (pe_callB call_isi (by rfl) m1 (by decide +kernel) (pa_cons (pv 0) (pa_cons (pe_bltn (by rfl) m2 (by decide +kernel) (v := .ty "int") rfl) pa_nil)))
    (pe_one (pe_not (pe_callB call_isi (by rfl) m1 (by decide +kernel) (pa_cons (pv 0) (pa_cons (pe_bltn (by rfl) m3 (by decide +kernel) (v := .ty "bool") rfl) pa_nil))))))), ?_⟩
  refine s_ret (v := .bl (isInt d)) (ev_is (ev_andV (ev_isi (ed_var rfl hv) (kit_int d)) fun _ => ev_notV (ev_isi (ed_var rfl hv) (kit_bool d))) ?_) fun H1 e => q _ _ e (.bl _)
  cases d <;> rfl

def betw : PyData → Int → Int → Bool
  | .int i, a, b => decide (a ≤ i) && decide (i ≤ b)
  | _, _, _ => false
def gBetw (d lo hi : PyData) : Option PyData := match lo, hi with
  | .int a, .int b => some (.bool (betw d a b))
  | _, _ => none
theorem ok_betw {f fI : Addr} {fd fdI : FuncData} (F : Fun K "is_between" "is_between" sBetw f fd) (FI : Fun K "is_integer" "is_integer" sIsInt fI fdI) (bI : Binds K fdI ["value"] []) (gI : mg "is_integer" = some (.ref fI))
    (G : FnOk P w K mg base CX0 1 fI fdI ["value"] (spD K (f1 fun d => some (.bool (isInt d))))) :
    FnOk P w K mg base CX0 2 f fd ["value", "low", "high"] (spD K (f3 gBetw)) := by
  refine F.ok scBetw (fun vs H Q E h => spD_len f3_len h) (fun cdv A outer s H vs Q E hr h => ?_)
  obtain ⟨v, x, y, d, lo, hi, r, rfl, hv, hx, hy, hf, q⟩ := sp3 h
  match lo, hi, hf, hx, hy with
  | .int a, .int b, hf, hx, hy =>
    cases hf
    refine ⟨_, pss_one (ps_ret (pe_and
      (pe_call G hr (by rfl) gI FI.kp bI .nil pass0 (pa_cons (pv 0) pa_nil))
      (pe_one (pe_chain op_le op_le (pv 1) (pv 0) (pv 2))))), ?_⟩
    have e1 : Ev (tCall (spD K (f1 fun d => some (.bool (isInt d)))) [] E0 (tCons (tVar 0) tNil)) (start ["value", "low", "high"] [v, x, y]) H (.bl (isInt d)) :=
      ev_b (ed_call (eda_cons (ed_var rfl hv) eda_nil) rfl)
    cases hd : isInt d with
    | false =>
      have hb : betw d a b = false := by cases d <;> first | rfl | cases hd
      rw [hb] at q
      rw [hd] at e1
      exact s_ret (ev_andV (b := false) e1 (fun z => by cases z)) fun H1 e => q _ _ e (.bl _)
    | true =>
      cases d with
      | int i =>
        rw [hd] at e1
        exact s_ret (ev_andV e1 fun _ => ev_chain (K := K) (ed_var rfl hx) (ed_var rfl hv) (ed_var rfl hy)) fun H1 e => q _ _ e (.bl _)
      | _ => cases hd

end
end WR
set_option Elab.async false
set_option linter.all false
set_option maxRecDepth 100000
set_option maxHeartbeats 1000000
namespace WR
open PySem PySem.Spec PyProof.Rows L2 Evl
theorem scRoot : FnScope ["web", "leaves", "inner"] ["web"] (defScope sRoot) := ⟨rfl, rfl, rfl, by decide +kernel, rfl, by decide +kernel, by decide +kernel⟩
theorem scKids : FnScope ["web", "kind", "leaves", "inner"] ["web", "kind"] (defScope sKids) := ⟨rfl, rfl, rfl, by decide +kernel, rfl, by decide +kernel, by decide +kernel⟩
section
variable {P : Program} {w : World} {K : PySem.W.Frag} {mg : Str → Option Value} {base : Heap}
theorem ok_root {f : Addr} {fd : FuncData} (F : Fun K "root" "root" sRoot f fd) (m5 : mg "len" = none) : FnOk P w K mg base CX0 1 f fd ["web"] (spW K fun l inner => natD (topN l inner)) := by
  refine F.ok scRoot (fun vs H Q E h => spW_len h) (fun cdv A outer s H vs Q E hr h => ?_)
  obtain ⟨v, l, inner, rfl, hv, hw, q⟩ := h
  refine ⟨_, pss_cons (ps_asg (pv 0) (pg_tup rfl (pgs_cons (pg_name (i := 1) scRoot.nd rfl (.inl rfl)) (pgs_cons (pg_name (i := 2) scRoot.nd rfl (.inl rfl)) pgs_nil))))
    (pss_one (ps_ret (pe_op op_sub (pe_op op_add (pv 1) (pe_callB call_len_seq (by rfl) m5 PySem.boot_len (pa_cons (pv 2) pa_nil))) pe_int))), ?_⟩
  refine q_unp2 (ed_var rfl hv) fun x y H1 e1 hx hy => ?_
  refine s_retD (d := natD (topN l inner)) (ed_is (ed_i (ev_op (ev_op (ev_i (ed_var rfl hx)) (ed_lenT (ed_var rfl hy)) rv_I0) ev_c rv_I0)) ?_) fun v H2 e2 hr => q v H2 (e1.trans e2) hr
  show PyData.int _ = PyData.int _
  have := hw.l1
  rw [List.length_map]
  unfold topN
  congr 1
  omega
theorem ok_kids {f : Addr} {fd : FuncData} (F : Fun K "children" "children" sKids f fd) : FnOk P w K mg base CX0 1 f fd ["web", "kind"] (spWK K fun l inner k => kidsD (kidsAt l inner k)) := by
  refine F.ok scKids (fun vs H Q E h => spWK_len h) (fun cdv A outer s H vs Q E hr h => ?_)
  obtain ⟨v, l, inner, k, rfl, hv, hw, hlt, q⟩ := h
  refine ⟨_, pss_cons (ps_asg (pv 0) (pg_tup rfl (pgs_cons (pg_name (i := 2) scKids.nd rfl (.inl rfl)) (pgs_cons (pg_name (i := 3) scKids.nd rfl (.inl rfl)) pgs_nil))))
    (pss_cons (ps_if (pt_cmpR op_lt (pv 1) (pv 2) (nomark _)) (pss_one (ps_ret (pe_tup pa_nil))) pss_nil)
    (pss_one (ps_ret (pe_ix ix_tup (pv 3) (pe_op op_sub (pv 1) (pv 2)) (fun _ _ => rfl))))), ?_⟩
  refine q_unp2 (ed_var rfl hv) fun x y H1 e1 hx hy => ?_
  refine q_when (b := decide ((k : Int) < (l : Int))) (et_test (ev_op (ev_var rfl) (ev_i (ed_var rfl hx)) rv_I0)) (fun hb H2 e2 => ?_) fun hb H2 e2 => ?_
  · have hb := of_decide_eq_true hb
    refine s_retD (K := K) (d := .tuple []) (ed_tup eda_nil (by simp)) fun v H3 e3 hr => q v H3 ((e1.trans e2).trans e3) ?_
    show Dp K H3 v (kidsD (kidsAt l inner k))
    rw [show kidsAt l inner k = [] from if_pos (by omega)]
    exact hr
  · have hb := of_decide_eq_false hb
    have hi : k - l < inner.length := by omega
    refine s_retD (d := kidsD (inner.getD (k - l) [])) (ed_ixT (n := k - l) (ed_var rfl (dp_ex e2 _ hy)) (ed_i (ev_op (ev_var rfl) (ev_i (ed_var rfl (dp_ex e2 _ hx))) rv_I0)) (by omega) ?_) fun v H3 e3 hr => q v H3 ((e1.trans e2).trans e3) ?_
    · rw [List.getElem?_map, List.getElem?_eq_getElem hi, List.getD_eq_getElem?_getD, List.getElem?_eq_getElem hi]
      rfl
    · show Dp K H3 v (kidsD (kidsAt l inner k))
      rw [show kidsAt l inner k = inner.getD (k - l) [] from if_neg (by omega)]
      exact hr
end
end WR
set_option Elab.async false
set_option linter.all false
set_option maxRecDepth 100000
set_option maxHeartbeats 1000000
namespace WR
open PySem PySem.Spec PyProof.Rows L2 Evl

/-! ### ways_to, ways -/
section
variable {K : PySem.W.Frag} {σ : L2.St} {H : Hp} {te : TE}
theorem ev_sum {ns : List Int} (h : EvN K te σ H (ns.map PyData.int)) : Ev (tCB (rSum K) (tCons te tNil)) σ H (.int ns.sum) := fun H1 e Q q =>
  h H1 e _ fun p xs H2 hp e2 hx hd => by
    rw [ints_of hd] at hx
    exact ⟨p, ns, rfl, sq_of hx, q H2 e2⟩
end
def intDs (ns : List Int) : List PyData := ns.map PyData.int
def wayD (l : Nat) (inner : List (List Nat)) (to : Nat) : List Int := wayL (kidsAt l inner) to (l + inner.length)
theorem fm_natsI {f : PyData → Option PyData} {g : Nat → Int} {ks : List Nat} (h : ∀ c ∈ ks, f (natD c) = some (.int (g c))) : (natDs ks).filterMap f = (ks.map g).map PyData.int := by
  unfold natDs
  rw [List.filterMap_map, List.map_map]
  exact fm_map fun c hc => h c hc
abbrev nWt : List Str := ["web", "to", "counts", "kind", "below", "child"]
theorem scWt : FnScope nWt ["web", "to"] (defScope sWaysTo) := ⟨rfl, rfl, rfl, by decide +kernel, rfl, by decide +kernel, by decide +kernel⟩
section
variable {P : Program} {w : World} {K : PySem.W.Frag} {mg : Str → Option Value} {base : Heap}
theorem ok_waysto {f fR fK : Addr} {fd fdR fdK : FuncData} (F : Fun K "ways_to" "ways_to" sWaysTo f fd)
    (FR : Fun K "root" "root" sRoot fR fdR) (bR : Binds K fdR ["web"] []) (gR : mg "root" = some (.ref fR))
    (FK : Fun K "children" "children" sKids fK fdK) (bK : Binds K fdK ["web", "kind"] []) (gK : mg "children" = some (.ref fK))
    (m4 : mg "range" = none) (m7 : mg "sum" = none)
    (G : FnOk P w K mg base CX0 1 fR fdR ["web"] (spW K fun l inner => natD (topN l inner)))
    (GK : FnOk P w K mg base CX0 1 fK fdK ["web", "kind"] (spWK K fun l inner k => kidsD (kidsAt l inner k))) :
    FnOk P w K mg base CX0 2 f fd ["web", "to"] (spWK K fun l inner to => .list (intDs (wayD l inner to))) := by
  refine F.ok scWt (fun vs H Q E h => spWK_len h) (fun cdv A outer s H vs Q E hr h => ?_)
  obtain ⟨v, l, inner, to, rfl, hv, hw, hlt, q⟩ := h
  refine ⟨_, pss_cons (ps_set (i := 2) scWt.nd rfl (.inr rfl) (pe_lst pa_nil))
    (pss_cons (ps_for PassesOwn.never rfl (pi_range1 (by rfl) m4 (pa_cons (pe_op op_add (pe_call G hr (by rfl) gR FR.kp bR .nil pass0 (pa_cons (pv 0) pa_nil)) pe_int) pa_nil)) (pg_name (i := 3) scWt.nd rfl (.inl rfl))
      (pss_cons (ps_set (i := 4) scWt.nd rfl (.inl rfl) (pe_callB (cr_sum rfl) (by rfl) m7 (by decide +kernel) (pa_cons (pe_lc (own := [("child", 5)]) (g := gName 5) (tt := tYes) (te := tOp (rIxL K) (tVar 2) (tVar 5)) rfl scWt.nd
        (pi_tup (pe_call GK hr (by rfl) gK FK.kp bK .nil pass0 (pa_cons (pv 0) (pa_cons (pv 3) pa_nil)))) (blkOk_by (N := nWt) (sc := defScope sWaysTo) (by decide +kernel))
        (fun _ _ _ _ _ => pg_name (i := 5) scWt.nd rfl (Or.inl rfl)) (fun _ _ _ _ _ => pts_nil) (fun _ _ _ _ _ => pe_ix (r := rIxL K) ix_list (pv 2) (pv 5) (fun _ _ => rfl))) pa_nil)))
      (pss_one (ps_expr (pe_bm PySem.F.plainAttrs_list PySem.F.slot_list_append PySem.F.type_list_append mt_append (pv 2) (pa_cons (pe_ifExp (pt_cmpR op_eq (pv 3) (pv 1) (nomark _)) (pe_op op_add (pv 4) pe_int) (pv 4)) pa_nil))))))
    (pss_one (ps_ret (pv 2)))), ?_⟩
  have h1 := hw.l1
  have h8 := hw.l8
  have h20 := hw.n20
  obtain ⟨n, en⟩ : ∃ n, n = l + inner.length := ⟨_, rfl⟩
  have hN : ((topN l inner : Nat) : Int) + 1 = (n : Int) := by unfold topN; omega
  let S (x2 x3 x4 : Option V) : L2.St := [some v, some (.int (to : Int)), x2, x3, x4, none]
  refine q_asgN (K := K) (ds := []) (ed_lst eda_nil (by simp)) fun pa xs H1 hpa e1 hH1 hd1 => ?_
  cases hd1
  show tSeq (tFor _ _ _) _ _ (S (some (.ref pa)) none none) H1
  refine q_forR1 (n := (n : Int)) (ea_cons (ev_is (ev_op (ev_i (K := K) (ed_callW (ed_var rfl (dp_ex e1 _ hv)) hw)) ev_c rv_I0) (by rw [hN])) ea_nil) (by omega)
    (fun i σ' H' => (∃ x3 x4, σ' = S (some (.ref pa)) x3 x4) ∧ Ex H H' ∧ H' pa = some (.lst ((wayL (kidsAt l inner) to i).map V.int))) (fun H2 e2 => ⟨⟨_, _, rfl⟩, e1.trans e2, e2 _ _ hH1⟩) (fun k σ' H' hk hP => ?_) fun σ' H' hP => ?_
  · obtain ⟨⟨x3, x4, rfl⟩, e2, hp⟩ := hP
    have hk : k < l + inner.length := by omega
    show tSeq _ _ _ (S (some (.ref pa)) (some (nV k)) x4) H'
    have hlen := wayL_len (kf := kidsAt l inner) (to := to) k
    have hup : wayL (kidsAt l inner) to (k + 1) = wayL (kidsAt l inner) to k ++ [((kidsAt l inner k).map fun c => (wayL (kidsAt l inner) to k).getD c 0).sum + (if k = to then 1 else 0)] := rfl
    rw [hup]
    generalize wayL (kidsAt l inner) to k = W at hp hlen ⊢
    refine q_asg (v := .int ((kidsAt l inner k).map fun c => W.getD c 0).sum) (ev_sum (K := K) ?_) fun H3 e3 => ?_
    · have q1 := en_lc (K := K) (σ := S (some (.ref pa)) (some (nV k)) x4) (H := H') (ds := natDs (kidsAt l inner k)) (j := 5) (vs := [5]) (t := tYes) (te := tOp (rIxL K) (tVar 2) (tVar 5))
        (fun d => match d with | .int c => some (.int (W.getD c.toNat 0)) | _ => none) (src_T (ed_callWK (E := E0) (te := tVar 0) (tx := tVar 3) (g := fun l inner k => kidsD (kidsAt l inner k)) (k := k) (ed_var rfl (dp_ex e2 _ hv)) (ed_i (ev_var rfl)) hw hk)) (by unfold natDs; rw [List.length_map]; have := kl30 (k := k) hw; omega) (fun _ => rfl) (fun d v H8 e8 hd hv => ?_) (fun d r v H8 e8 hd hv hr => ?_) (fun d r hd hr => ?_)
      · rw [fm_natsI (g := fun c => W.getD c 0) (fun c _ => rfl)] at q1
        exact q1
      · obtain ⟨c, _, rfl⟩ := List.mem_map.mp hd
        exact fun H1 _ _ q => q H1 (Ex.refl H1)
      · obtain ⟨c, hc, rfl⟩ := List.mem_map.mp hd
        cases hr
        cases dp_int hv
        have hcl := (kidsAt_lt hw hc).2
        refine ed_i (ev_op (x := .ref pa) (y := nV c) (ev_var rfl) (ev_var rfl) (rv_ixL (K := K) (sq_of (e8 _ _ hp)) (atI_nat ?_)))
        rw [List.getElem?_map, Int.toNat_natCast, List.getD_eq_getElem?_getD, List.getElem?_eq_getElem (by omega)]
        rfl
      · obtain ⟨c, _, rfl⟩ := List.mem_map.mp hd
        cases hr
        rfl
    · generalize ((kidsAt l inner k).map fun c => W.getD c 0).sum = b
      show tDrop _ _ (S (some (.ref pa)) (some (nV k)) (some (.int b))) H3
      refine s_app (v := .int (b + (if k = to then 1 else 0))) (e3 _ _ hp) (ev_var rfl) (ev_if (b := decide ((k : Int) = (to : Int))) (et_test (ev_is (ev_op (ev_var rfl) (ev_var rfl) (rv_eq rfl)) ?_)) (fun hb => ?_) fun hb => ?_) (by rw [List.length_map]; omega) fun H4 e4 => ⟨⟨_, _, rfl⟩, Ex.mut ((e2.trans e3).trans e4) hpa, ?_⟩
      · show V.bl (decide (V.int (k : Int) = V.int (to : Int))) = _
        rw [dec_int]
        rfl
      · have hb := of_decide_eq_true hb
        rw [if_pos (by omega)]
        exact ev_op (ev_var rfl) ev_c rv_I0
      · have hb := of_decide_eq_false hb
        rw [if_neg (by omega), Int.add_zero]
        exact ev_var rfl
      · rw [upd_same, List.map_append]
        rfl
  · obtain ⟨⟨x3, x4, rfl⟩, e2, hp⟩ := hP
    rw [Int.toNat_natCast] at hp
    refine s_retD (K := K) (d := .list (intDs (wayD l inner to))) (ed_var rfl (.lst (sq_of hp) ?_)) fun r H3 e3 hr => q r H3 (e2.trans e3) hr
    unfold intDs wayD
    rw [en]
    exact dpAll_ints _
theorem wayD_at {l : Nat} {inner : List (List Nat)} {to k : Nat} (h : k < l + inner.length) : (intDs (wayD l inner to))[k]? = some (.int (way (kidsAt l inner) to k)) := by
  unfold intDs wayD
  rw [List.getElem?_map, wayL_eq, List.getElem?_map, List.getElem?_range h]
  rfl
end
end WR
-- auto
set_option Elab.async false
set_option linter.all false
set_option maxRecDepth 100000
set_option maxHeartbeats 1000000
namespace WR
open PySem PySem.Spec PyProof.Rows L2 Evl

/-! ### what holds of a drawn web, by its own numbers -/
structure WebP (l : Nat) (inner : List (List Nat)) : Prop where
  raw : Raw l inner
  nd : ∀ ks ∈ inner, ks.Nodup
  asc : ∀ ks ∈ inner, ks.Pairwise (· ≤ ·)
  bare : ∀ u, l ≤ u → u < l + inner.length → ∃ c ∈ kidsAt l inner u, (parsAt l inner c).length ≤ 1
  one : ∀ u, l ≤ u → u < l + inner.length → (parsAt l inner u).length ≤ 1 → 2 ≤ (kidsAt l inner u).length
  mix : ∀ u, u < l + inner.length → 2 ≤ (parsAt l inner u).length → (kidsAt l inner u).length = 1
  lf1 : ∀ u, u < l → (parsAt l inner u).length ≤ 1
  root : ∀ u, u < l + inner.length → (parsAt l inner u = [] ↔ u + 1 = l + inner.length)
theorem kidsAt_leaf {l : Nat} {inner : List (List Nat)} {u : Nat} (h : u < l) : kidsAt l inner u = [] := if_pos h
theorem kidsAt_inner {l : Nat} {inner : List (List Nat)} {u : Nat} (h : l ≤ u) (h2 : u < l + inner.length) : kidsAt l inner u ∈ inner := by
  unfold kidsAt
  rw [if_neg (by omega), List.getD_eq_getElem?_getD, List.getElem?_eq_getElem (by omega)]
  exact List.getElem_mem _
theorem mem_pars {l : Nat} {inner : List (List Nat)} {c u : Nat} : u ∈ parsAt l inner c ↔ u < l + inner.length ∧ c ∈ kidsAt l inner u := by
  unfold parsAt
  rw [List.mem_filter, List.mem_range, decide_eq_true_iff]
theorem itemOf_mem {K : Nat → List Nat} {od : List Nat} {u x : Nat} : x ∈ itemOf K od u ↔ ∃ c ∈ K u, x = plc c od := by
  unfold itemOf
  constructor
  · intro h
    obtain ⟨i, hi, rfl⟩ := List.mem_map.mp h
    obtain ⟨c, hc, rfl⟩ := List.mem_map.mp ((sortI_perm _).mem_iff.mp hi)
    exact ⟨c, hc, by rw [Int.toNat_natCast]⟩
  · rintro ⟨c, hc, rfl⟩
    refine List.mem_map.mpr ⟨((plc c od : Nat) : Int), (sortI_perm _).mem_iff.mpr (List.mem_map.mpr ⟨c, hc, rfl⟩), ?_⟩
    rw [Int.toNat_natCast]
theorem itemOf_len {K : Nat → List Nat} {od : List Nat} {u : Nat} : (itemOf K od u).length = (K u).length := by
  unfold itemOf
  rw [List.length_map, (sortI_perm _).length_eq, List.length_map]
theorem cnt_count {K : Nat → List Nat} {k : Nat} : ∀ n, cnt K k n = (List.range n).countP fun u => decide (k ∈ K u)
  | 0 => rfl
  | n + 1 => by
    show cnt K k n + (if k ∈ K n then 1 else 0) = _
    rw [cnt_count n, List.range_succ, List.countP_append, List.countP_cons, List.countP_nil]
    by_cases h : k ∈ K n
    · rw [if_pos h, decide_eq_true h]
      rfl
    · rw [if_neg h, decide_eq_false h]
      rfl
theorem Drawn.web {L : Nat} {inner : List (List Nat)} (h : Drawn L inner) (h1 : 1 ≤ L) (h8 : L ≤ 8) : WebP L inner := by
  have hraw := h.raw h1 h8
  have hnd := h.nd
  obtain ⟨kk, od, hG, hn, hO, hlen, hin⟩ := h.ex
  have hLo := hO.len
  have hil : inner.length = od.length - L := by rw [hin, List.length_map, List.length_drop]
  have hnn : L + inner.length = kk.length := by omega
  -- the kind at a place
  let o : Nat → Nat := fun j => od.getD j 0
  have ho : ∀ j, j < kk.length → od[j]? = some (o j) := fun j hj => by
    show od[j]? = some (od.getD j 0)
    rw [List.getD_eq_getElem?_getD, List.getElem?_eq_getElem (by omega)]
    rfl
  have hom : ∀ j, j < kk.length → o j ∈ od := fun j hj => List.mem_of_getElem? (ho j hj)
  have hol : ∀ j, j < kk.length → o j < kk.length := fun j hj => hO.lt _ (hom j hj)
  have hop : ∀ j, j < kk.length → plc (o j) od = j := fun j hj => plc_at hO.nd (ho j hj)
  have hpo : ∀ c, c ∈ od → plc c od < kk.length ∧ o (plc c od) = c := fun c hc => by
    have a := plc_lt hc
    have b := plc_get hc
    refine ⟨by omega, ?_⟩
    have := ho (plc c od) (by omega)
    rw [b] at this
    exact (Option.some.inj this).symm
  have hk1 : ∀ j, j < kk.length → kidsAt L inner j = itemOf (rowAt kk) od (o j) := fun j hj => by
    by_cases z : j < L
    · rw [kidsAt_leaf z]
      have e : o j = j := by
        have := ho j hj
        rw [hO.lf j z] at this
        exact (Option.some.inj this).symm
      rw [e]
      unfold itemOf
      rw [hG.leaf j z]
      rfl
    · unfold kidsAt
      rw [if_neg z, List.getD_eq_getElem?_getD, hin, List.getElem?_map, List.getElem?_drop, show L + (j - L) = j by omega, ho j hj]
      rfl
  have hk3 : ∀ x j, x < kk.length → j < kk.length → (x ∈ kidsAt L inner j ↔ o x ∈ rowAt kk (o j)) := fun x j hx hj => by
    rw [hk1 j hj, itemOf_mem]
    constructor
    · rintro ⟨c, hc, rfl⟩
      have hco := (hO.dn (o j) c (hom j hj) hc).1
      rw [(hpo c hco).2]
      exact hc
    · intro hc
      exact ⟨o x, hc, (hop x hx).symm⟩
  have hod : od = (List.range kk.length).map o := by
    refine List.ext_getElem? fun j => ?_
    by_cases z : j < kk.length
    · rw [ho j z, List.getElem?_map, List.getElem?_range z]
      rfl
    · rw [List.getElem?_eq_none (by omega), List.getElem?_eq_none (by rw [List.length_map, List.length_range]; omega)]
  have hperm : od.Perm (List.range kk.length) := by
    refine (List.perm_ext_iff_of_nodup hO.nd List.nodup_range).mpr fun a => ⟨fun ha => List.mem_range.mpr (hO.lt a ha), fun ha => ?_⟩
    have ha := List.mem_range.mp ha
    -- a nodup list of so many numbers below so many has each
    refine Classical.byContradiction fun z => ?_
    have hnd2 : (a :: od).Nodup := List.nodup_cons.mpr ⟨z, hO.nd⟩
    have := nodup_len kk.length (a :: od) hnd2 (fun c hc => by
      rcases List.mem_cons.mp hc with rfl | hc
      · exact ha
      · exact hO.lt c hc)
    rw [List.length_cons] at this
    omega
  have hk4 : ∀ x, x < kk.length → (parsAt L inner x).length = cnt (rowAt kk) (o x) kk.length := fun x hx => by
    have e1 : cnt (rowAt kk) (o x) kk.length = od.countP fun u => decide (o x ∈ rowAt kk u) := by rw [cnt_count, hperm.countP_eq]
    have e2 : (od.countP fun u => decide (o x ∈ rowAt kk u)) = (List.range kk.length).countP ((fun u => decide (o x ∈ rowAt kk u)) ∘ o) :=
      (congrArg (List.countP fun u => decide (o x ∈ rowAt kk u)) hod).trans List.countP_map
    rw [e1, e2]
    unfold parsAt
    rw [← List.countP_eq_length_filter, hnn]
    refine List.countP_congr fun j hj => ?_
    have hj := List.mem_range.mp hj
    simp only [Function.comp_apply, decide_eq_true_iff]
    exact hk3 x j hx hj
  have hoL : ∀ j, L ≤ j → j < kk.length → L ≤ o j := fun j h2 hj => by
    refine Classical.byContradiction fun z => ?_
    have a := hO.lf (o j) (by omega)
    have b := plc_at hO.nd a
    rw [hop j hj] at b
    omega
  refine ⟨hraw, hnd, fun ks hks => ?_, fun u hu1 hu2 => ?_, fun u hu1 hu2 hp => ?_, fun u hu hp => ?_, fun u hu => ?_, fun u hu => ?_⟩
  · rw [hin] at hks
    obtain ⟨u, _, rfl⟩ := List.mem_map.mp hks
    unfold itemOf
    refine List.pairwise_map.mpr ((sortI_sorted _).imp fun {a b} hab => ?_)
    omega
  · rw [hnn] at hu2
    obtain ⟨c, hc, hc1, _⟩ := hG.bare (o u) (hoL u hu1 hu2) (hol u hu2)
    have hco := (hO.dn (o u) c (hom u hu2) hc).1
    obtain ⟨a, b⟩ := hpo c hco
    refine ⟨plc c od, (hk3 _ u a hu2).mpr (by rw [b]; exact hc), ?_⟩
    rw [hk4 _ a, b]
    exact hc1
  · rw [hnn] at hu2
    rw [hk1 u hu2, itemOf_len]
    rw [hk4 u hu2] at hp
    have := hol u hu2
    exact hG.one (o u) (hoL u hu1 hu2) this (by omega) hp
  · rw [hnn] at hu
    rw [hk4 u hu] at hp
    rw [hk1 u hu, itemOf_len]
    exact hG.mix (o u) hp
  · rw [hk4 u (by omega)]
    have e : o u = u := by
      have := ho u (by omega)
      rw [hO.lf u hu] at this
      exact (Option.some.inj this).symm
    rw [e]
    exact hG.lf1 u hu
  · rw [hnn] at hu ⊢
    obtain ⟨t, ht, hr⟩ := hG.root
    have key : ∀ x, x < kk.length → (parsAt L inner x = [] ↔ o x = t) := fun x hx => by
      rw [← hr (o x) (hol x hx), ← hk4 x hx, List.length_eq_zero_iff]
    have top : parsAt L inner (kk.length - 1) = [] := by
      refine List.eq_nil_iff_forall_not_mem.mpr fun j hj => ?_
      obtain ⟨a, b⟩ := mem_pars.mp hj
      have := (kidsAt_lt hraw b).2
      omega
    have htop := (key (kk.length - 1) (by omega)).mp top
    rw [key u hu]
    constructor
    · intro e
      have a := hop u hu
      rw [e, ← htop, hop _ (by omega)] at a
      omega
    · intro e
      rw [← htop]
      congr 1
      omega
end WR
set_option Elab.async false
set_option linter.all false
set_option maxRecDepth 100000
set_option maxHeartbeats 1000000
namespace WR
open PySem PySem.Spec PyProof.Rows L2 Evl

/-! ### roads: the mathematics -/
def minN (ks : List Nat) : Nat := ks.min?.getD 0
theorem minN_eq {ks : List Nat} {m : Nat} (h : m ∈ ks) (h2 : ∀ y ∈ ks, m ≤ y) : minN ks = m := by
  unfold minN
  rw [List.min?_eq_some_iff.mpr ⟨h, h2⟩]
  rfl
theorem minN_mem {ks : List Nat} (h : ks ≠ []) : minN ks ∈ ks := by
  unfold minN
  cases e : ks.min? with
  | none => exact absurd (List.min?_eq_none_iff.mp e) h
  | some m => exact List.min?_mem e
/-- the plain child with the least number -/
def nxt (kf : Nat → List Nat) (pl : Nat → Bool) (u : Nat) : Nat := minN ((kf u).filter pl)
def roadL (nx : Nat → Nat) (l : Nat) : Nat → Nat → List Nat
  | 0, k => [k]
  | m + 1, k => if k < l then [k] else k :: roadL nx l m (nx k)
def roadN (l : Nat) (inner : List (List Nat)) (k : Nat) : List Nat := roadL (nxt (kidsAt l inner) fun c => decide ((parsAt l inner c).length ≤ 1)) l k k
theorem roadL_leaf {nx : Nat → Nat} {l m k : Nat} (h : k < l) : roadL nx l m k = [k] := by
  cases m with
  | zero => rfl
  | succ m => exact if_pos h
theorem roadL_go {nx : Nat → Nat} {l m k : Nat} (h : ¬ k < l) : roadL nx l (m + 1) k = k :: roadL nx l m (nx k) := if_neg h
theorem roadL_ne {nx : Nat → Nat} {l m k : Nat} : roadL nx l m k ≠ [] := by
  cases m with
  | zero => exact fun z => by cases z
  | succ m =>
    show (if k < l then [k] else k :: roadL nx l m (nx k)) ≠ []
    split <;> exact fun z => by cases z
theorem roadL_congr {nx ny : Nat → Nat} {l : Nat} {b : Nat} (h : ∀ u, l ≤ u → u ≤ b → nx u = ny u) (hd : ∀ u, l ≤ u → u ≤ b → ny u < u) : ∀ {m k : Nat}, k ≤ b → roadL nx l m k = roadL ny l m k
  | 0, _, _ => rfl
  | m + 1, k, hk => by
    show (if k < l then [k] else k :: roadL nx l m (nx k)) = if k < l then [k] else k :: roadL ny l m (ny k)
    by_cases z : k < l
    · rw [if_pos z, if_pos z]
    · rw [if_neg z, if_neg z, h k (by omega) hk, roadL_congr h hd (by have := hd k (by omega) hk; omega)]
theorem roadL_len {nx : Nat → Nat} {l : Nat} : ∀ {m k : Nat}, (roadL nx l m k).length ≤ m + 1
  | 0, _ => Nat.le_refl _
  | m + 1, k => by
    show (if k < l then [k] else k :: roadL nx l m (nx k)).length ≤ _
    split
    · simp
    · rw [List.length_cons]
      have := roadL_len (nx := nx) (l := l) (m := m) (k := nx k)
      omega
theorem roadL_le {nx : Nat → Nat} {l b : Nat} (hd : ∀ u, l ≤ u → u ≤ b → nx u < u) : ∀ {m k : Nat}, k ≤ b → ∀ x ∈ roadL nx l m k, x ≤ k
  | 0, k, _, x, h => by rw [List.mem_singleton.mp h]; exact Nat.le_refl _
  | m + 1, k, hk, x, h => by
    by_cases z : k < l
    · rw [roadL_leaf z] at h
      rw [List.mem_singleton.mp h]
      exact Nat.le_refl _
    · rw [roadL_go z] at h
      have := hd k (by omega) hk
      rcases List.mem_cons.mp h with rfl | h
      · exact Nat.le_refl _
      · have := roadL_le hd (m := m) (k := nx k) (by omega) x h
        omega
section
variable {l : Nat} {inner : List (List Nat)} (W : WebP l inner)
include W
theorem nxt_ok {u : Nat} (h1 : l ≤ u) (h2 : u < l + inner.length) : nxt (kidsAt l inner) (fun c => decide ((parsAt l inner c).length ≤ 1)) u ∈ kidsAt l inner u ∧ (parsAt l inner (nxt (kidsAt l inner) (fun c => decide ((parsAt l inner c).length ≤ 1)) u)).length ≤ 1 := by
  obtain ⟨c, hc, hc1⟩ := W.bare u h1 h2
  have hm : ((kidsAt l inner u).filter fun c => decide ((parsAt l inner c).length ≤ 1)) ≠ [] := fun z => by
    have : c ∈ (kidsAt l inner u).filter fun c => decide ((parsAt l inner c).length ≤ 1) := List.mem_filter.mpr ⟨hc, decide_eq_true hc1⟩
    rw [z] at this
    cases this
  obtain ⟨a, b⟩ := List.mem_filter.mp (minN_mem hm)
  exact ⟨a, of_decide_eq_true b⟩
theorem nxt_lt {u : Nat} (h1 : l ≤ u) (h2 : u < l + inner.length) : nxt (kidsAt l inner) (fun c => decide ((parsAt l inner c).length ≤ 1)) u < u := (kidsAt_lt W.raw (nxt_ok W h1 h2).1).2
theorem roadN_le {k : Nat} (hk : k < l + inner.length) : ∀ x ∈ roadN l inner k, x ≤ k :=
  roadL_le (b := k) (fun u h1 h2 => nxt_lt W h1 (by omega)) (Nat.le_refl k)
end
/-- a promise of a def of a drawn web and a kind -/
def spPK (K : PySem.W.Frag) (g : Nat → List (List Nat) → Nat → PyData) : Sp := fun vs H Q _ =>
  ∃ v l inner k, vs = [v, .int ((k : Nat) : Int)] ∧ Dp K H v (webD l inner) ∧ WebP l inner ∧ k < l + inner.length ∧ ∀ r H', Ex H H' → Dp K H' r (g l inner k) → Q r H'
theorem spPK_len {K : PySem.W.Frag} {g : Nat → List (List Nat) → Nat → PyData} {vs : List V} {H : Hp} {Q : VK} {E : XK} (h : spPK K g vs H Q E) : vs.length = 2 := by
  obtain ⟨v, l, inner, k, rfl, _⟩ := h
  rfl
theorem ed_callPK {K : PySem.W.Frag} {σ : L2.St} {H : Hp} {te tx : TE} {l k : Nat} {inner : List (List Nat)} {g : Nat → List (List Nat) → Nat → PyData} {E : XK} (h : EvD K te σ H (webD l inner)) (hk : EvD K tx σ H (natD k)) (hw : WebP l inner) (hlt : k < l + inner.length) :
    EvD K (tCall (spPK K g) [] E (tCons te (tCons tx tNil))) σ H (g l inner k) := fun H1 e Q q =>
  h H1 e _ fun v H2 e2 hv => hk H2 (e.trans e2) _ fun w H3 e3 hw' => by
    cases dp_int hw'
    exact ⟨v, l, inner, k, rfl, dp_ex e3 _ hv, hw, hlt, fun r H4 e4 hr => q r H4 ((e2.trans e3).trans e4) hr⟩
section
variable {K : PySem.W.Frag} {σ : L2.St} {H : Hp} {te : TE}
/-- min of a new list of kinds -/
theorem ev_minN {ks : List Nat} (h : EvN K te σ H (natDs ks)) (h0 : ks ≠ []) : Ev (tCB (rMin K) (tCons te tNil)) σ H (nV (minN ks)) := fun H1 e Q q =>
  h H1 e _ fun p xs H2 hp e2 hx hd => by
    rw [nats_of hd] at hx
    refine ⟨p, ks.map fun (k : Nat) => (k : Int), rfl, sq_of (by rw [hx, nVs_int]), ?_, fun m hm hle => ?_⟩
    · rw [List.length_map]
      cases ks with
      | nil => exact absurd rfl h0
      | cons _ _ => simp
    · obtain ⟨c, hc, rfl⟩ := List.mem_map.mp hm
      have : minN ks = c := minN_eq hc fun y hy => by
        have := hle (y : Int) (List.mem_map_of_mem hy)
        omega
      rw [← this]
      exact q H2 e2
/-- xs[-1] -/
theorem ev_lastL {p : Addr} {pre : List Nat} {u : Nat} (h : Ev te σ H (.ref p)) (hp : H p = some (.lst (nVs (pre ++ [u])))) : Ev (tOp (rIxL K) te (tUn (rU fun i => .int (-i)) (tC (.int 1)))) σ H (nV u) :=
  ev_op h (ev_un ev_c ru_neg) (rv_ixL (K := K) (sq_of hp) (by
    unfold nVs
    rw [List.map_append]
    exact atI_last _ _))
theorem fm_natsP {f : PyData → Option PyData} {g : Nat → Bool} (hf : ∀ x, f (natD x) = if g x = true then some (natD x) else none) : ∀ ks : List Nat, (natDs ks).filterMap f = natDs (ks.filter g)
  | [] => rfl
  | x :: r => by
    show (natD x :: natDs r).filterMap f = _
    rw [List.filterMap_cons, hf, List.filter_cons, fm_natsP hf r]
    cases g x <;> rfl
/-- the kinds of ks that .., a new list -/
theorem en_natLc {tt : TT} {wi : TI} {j : Nat} {vs : List Nat} {ks : List Nat} (g : Nat → Bool) (h : Src K wi σ H (natDs ks)) (hz : ks.length ≤ 40000) (hw : ∀ x, wipe ((wipe σ vs).set j (some x)) vs = wipe σ vs) (hj : j < (wipe σ vs).length)
    (ht : ∀ c H1, Ex H H1 → c ∈ ks → EvT tt ((wipe σ vs).set j (some (nV c))) H1 (g c)) : EvN K (tLc wi (gName j) tt (tVar j) vs) σ H (natDs (ks.filter g)) := by
  have q1 := en_lc (K := K) (t := tt) (te := tVar j) (j := j) (vs := vs) (ds := natDs ks) (fun d => match d with | .int c => if g c.toNat = true then some (natD c.toNat) else none | _ => none) h (by unfold natDs; rw [List.length_map]; exact hz) hw (fun d v H1 e hd hv => ?_) (fun d r v H1 e hd hv hr => ?_) (fun d r hd hr => ?_)
  · have e : (natDs ks).filterMap (fun d => match d with | .int c => if g c.toNat = true then some (natD c.toNat) else none | _ => none) = natDs (ks.filter g) := fm_natsP (f := fun d => match d with | .int c => if g c.toNat = true then some (natD c.toNat) else none | _ => none) (fun x => by
      show (if g ((x : Int).toNat) = true then some (natD ((x : Int).toNat)) else none) = _
      rw [Int.toNat_natCast]) ks
    rw [e] at q1
    exact q1
  · obtain ⟨c, hc, rfl⟩ := List.mem_map.mp hd
    cases dp_int hv
    refine et_is (ht c H1 e hc) ?_
    show g c = (if g ((c : Int).toNat) = true then some (natD ((c : Int).toNat)) else none).isSome
    rw [Int.toNat_natCast]
    cases g c <;> rfl
  · obtain ⟨c, hc, rfl⟩ := List.mem_map.mp hd
    have hr : (if g ((c : Int).toNat) = true then some (natD ((c : Int).toNat)) else none) = some r := hr
    rw [Int.toNat_natCast] at hr
    split at hr
    · cases hr
      cases dp_int hv
      exact ed_i (ev_var (by rw [List.getElem?_set_self hj]))
    · cases hr
  · obtain ⟨c, hc, rfl⟩ := List.mem_map.mp hd
    have hr : (if g ((c : Int).toNat) = true then some (natD ((c : Int).toNat)) else none) = some r := hr
    split at hr
    · cases hr
      rfl
    · cases hr
end
end WR
set_option Elab.async false
set_option linter.all false
set_option maxRecDepth 100000
set_option maxHeartbeats 2000000
namespace WR
open PySem PySem.Spec PyProof.Rows L2 Evl

/-! ### slices of a tuple of kinds -/
section
variable {K : PySem.W.Frag} {σ : L2.St} {H : Hp} {ta te : TE}
theorem kids_tup {v : V} {w : List Nat} (h : Dp K H v (kidsD w)) : ∃ p, v = .ref p ∧ SqT K H p (nVs w) := by
  obtain ⟨p, xs, rfl, hs, hd⟩ := dp_tup h
  have hd : DpAll K H xs (natDs w) := hd
  rw [nats_of hd] at hs
  exact ⟨p, rfl, hs⟩
theorem ed_lastS {w : List Nat} {t : Nat} (h : EvD K ta σ H (kidsD (w ++ [t]))) : EvD K (tSl (rSlA K) ta (tPart (tUn (rU fun i => .int (-i)) (tC (.int 1)))) tNoPart) σ H (kidsD [t]) := fun H1 e Q q =>
  h H1 e _ fun v H2 e2 hv => by
    obtain ⟨p, rfl, hs⟩ := kids_tup hv
    have hl : (nVs (w ++ [t])).length = w.length + 1 := by unfold nVs; rw [List.length_map, List.length_append]; rfl
    have h1 : HT.sIx (nVs (w ++ [t])).length 0 (some (-1)) = w.length := by
      show (if (-1 : Int) < 0 then ((-1 : Int) + ((nVs (w ++ [t])).length : Int)).toNat else min (-1 : Int).toNat (nVs (w ++ [t])).length) = w.length
      rw [if_pos (by decide), hl]
      omega
    have hc : cutV (nVs (w ++ [t])) (some (-1)) none = nVs [t] := by
      unfold cutV
      rw [h1, HT.sIx_none, hl, show w.length + 1 - w.length = 1 by omega]
      unfold nVs
      rw [List.map_append, List.drop_left' (List.length_map ..)]
      rfl
    refine ⟨1, rfl, _, rfl, p, _, rfl, hs, fun z => ?_, fun _ c nc => ?_⟩
    · have e1 : (nVs w).length = 0 := by
        have := z.1
        have z1 : HT.sIx (nVs (w ++ [t])).length 0 (some (-1)) = 0 := z.1
        rw [h1] at z1
        unfold nVs
        rw [List.length_map]
        exact z1
      have e2' : w = [] := by
        unfold nVs at e1
        rw [List.length_map] at e1
        exact List.length_eq_zero_iff.mp e1
      subst e2'
      exact q _ _ e2 (.tup hs (dpAll_nat [t]))
    · rw [hc]
      exact q _ _ (e2.trans (Ex.new nc)) (.tup (st_of upd_same) (dpAll_nat [t]))
theorem ed_takeS {w : List Nat} {m : Nat} (h : EvD K ta σ H (kidsD w)) (hm : Ev te σ H (nV m)) (hl : m ≤ w.length) : EvD K (tSl (rSlA K) ta tNoPart (tPart te)) σ H (kidsD (w.take m)) := fun H1 e Q q =>
  h H1 e _ fun v H2 e2 hv => hm H2 (e.trans e2) _ fun H3 e3 => by
    obtain ⟨p, rfl, hs⟩ := kids_tup (dp_ex e3 _ hv)
    have hll : (nVs w).length = w.length := by unfold nVs; rw [List.length_map]
    have h1 : HT.sIx (nVs w).length (nVs w).length (some (m : Int)) = m := by
      rw [HT.sIx_nat, hll]
      omega
    have hc : cutV (nVs w) none (some (m : Int)) = nVs (w.take m) := by
      unfold cutV
      rw [h1, HT.sIx_none, List.drop_zero]
      unfold nVs
      rw [List.map_take]
      rfl
    refine ⟨(m : Int), rfl, p, _, rfl, hs, fun z => ?_, fun _ c nc => ?_⟩
    · have z2 : HT.sIx (nVs w).length (nVs w).length (some (m : Int)) = (nVs w).length := z.2
      rw [h1, hll] at z2
      have z3 : w.take m = w := by rw [z2, List.take_length]
      rw [z3] at q
      exact q _ _ (e2.trans e3) (.tup hs (dpAll_nat w))
    · rw [hc]
      exact q _ _ ((e2.trans e3).trans (Ex.new nc)) (.tup (st_of upd_same) (dpAll_nat _))
end
theorem isWay_le {kf : Nat → List Nat} (hd : ∀ u c, c ∈ kf u → c < u) : ∀ {w : List Nat} {k : Nat}, isWayL kf (k :: w) → (∀ c ∈ k :: w, c ≤ k) ∧ (k :: w).length ≤ k + 1
  | [], k, _ => ⟨fun c hc => by rw [List.mem_singleton.mp hc]; exact Nat.le_refl k, by simp⟩
  | b :: r, k, h => by
    have h1 := hd k b h.1
    obtain ⟨i1, i2⟩ := isWay_le hd h.2
    refine ⟨fun c hc => ?_, by rw [List.length_cons]; omega⟩
    rcases List.mem_cons.mp hc with rfl | hc
    · exact Nat.le_refl _
    · have := i1 c hc
      omega
theorem isWay_link {kf : Nat → List Nat} : ∀ {w : List Nat} {m a b : Nat}, isWayL kf w → w[m]? = some a → w[m + 1]? = some b → b ∈ kf a
  | [], _, _, _, h, _, _ => h.elim
  | [x], m, a, b, _, _, h2 => by
    have := (List.getElem?_eq_some_iff.mp h2).1
    simp at this
  | x :: y :: r, 0, a, b, h, h1, h2 => by
    simp at h1 h2
    subst h1 h2
    exact h.1
  | x :: y :: r, m + 1, a, b, h, h1, h2 => isWay_link (w := y :: r) (m := m) h.2 (by simpa using h1) (by simpa using h2)
/-! ### next_stop, way_at -/
def spNext (K : PySem.W.Frag) : Sp := fun vs H Q _ => ∃ v l inner k pc to p, vs = [v, nV k, pc, .int p] ∧ Dp K H v (webD l inner) ∧ Asc l inner ∧ k < l + inner.length ∧ k ≠ to ∧ Dp K H pc (.list (intDs (wayD l inner to))) ∧
  0 ≤ p ∧ p < way (kidsAt l inner) to k ∧ ∀ r H', Ex H H' → Dp K H' r (.tuple [natD (chooseW (way (kidsAt l inner) to) (kidsAt l inner k) p).1, .int (chooseW (way (kidsAt l inner) to) (kidsAt l inner k) p).2]) → Q r H'
def spWayAt (K : PySem.W.Frag) : Sp := fun vs H Q _ => ∃ v l inner k to p, vs = [v, nV k, nV to, .int p] ∧ Dp K H v (webD l inner) ∧ Asc l inner ∧ k < l + inner.length ∧ to < l + inner.length ∧
  0 ≤ p ∧ p < way (kidsAt l inner) to k ∧ ∀ r H', Ex H H' → Dp K H' r (kidsD (wayAt (kidsAt l inner) to k p)) → Q r H'
def spIsWay (K : PySem.W.Frag) : Sp := fun vs H Q _ => ∃ v x l inner k w, vs = [v, x] ∧ Dp K H v (webD l inner) ∧ Raw l inner ∧ k < l + inner.length ∧ Dp K H x (kidsD (k :: w)) ∧ isWayL (kidsAt l inner) (k :: w) ∧ ∀ H', Ex H H' → Q (.bl true) H'
def spPlace (K : PySem.W.Frag) : Sp := fun vs H Q _ => ∃ v x l inner k w to, vs = [v, x] ∧ Dp K H v (webD l inner) ∧ Asc l inner ∧ k < l + inner.length ∧ Dp K H x (kidsD (k :: w)) ∧ isWayL (kidsAt l inner) (k :: w) ∧ (k :: w).getLast? = some to ∧
  ∀ H', Ex H H' → Q (.int (placeL (kidsAt l inner) to (k :: w))) H'
abbrev nNs : List Str := ["web", "kind", "counts", "place", "below", "at"]
abbrev nWa : List Str := ["web", "kind", "to", "value", "counts", "stops", "left", "child"]
abbrev nIw : List Str := ["web", "value", "item", "at"]
theorem scIw : FnScope nIw ["web", "value"] (defScope s_is_way) := ⟨rfl, rfl, rfl, by decide +kernel, rfl, by decide +kernel, by decide +kernel⟩
abbrev nPl : List Str := ["web", "value", "counts", "ahead", "at", "child"]
theorem scPl : FnScope nPl ["web", "value"] (defScope s_place_of) := ⟨rfl, rfl, rfl, by decide +kernel, rfl, by decide +kernel, by decide +kernel⟩
section
variable {P : Program} {w : World} {K : PySem.W.Frag} {mg : Str → Option Value} {base : Heap}
end
end WR
-- auto
set_option Elab.async false
set_option linter.all false
set_option maxRecDepth 100000
set_option maxHeartbeats 2000000
namespace WR
open PySem PySem.Spec PyProof.Rows L2 Evl

/-! ### is_way, place_of -/
def listA (kf : Nat → List Nat) (f : Nat → Int) : List Nat → List Int
  | a :: b :: r => ((kf a).filter fun x => decide (x < b)).map f ++ listA kf f (b :: r)
  | _ => []
theorem listA_sum {kf : Nat → List Nat} {to : Nat} : ∀ w, (listA kf (way kf to) w).sum = placeL kf to w
  | [] => rfl
  | [_] => rfl
  | a :: b :: r => by
    show (_ ++ listA kf (way kf to) (b :: r)).sum = aheadW (way kf to) (kf a) b + placeL kf to (b :: r)
    rw [List.sum_append, listA_sum (b :: r)]
    rfl
theorem listA_flat {kf : Nat → List Nat} {f : Nat → Int} : ∀ (w : List Nat) (k : Nat), flatK (fun i => kf ((k :: w).getD i 0)) (fun i c => decide (c < (k :: w).getD (i + 1) 0)) (fun _ c => .int (f c)) w.length = (listA kf f (k :: w)).map PyData.int
  | [], k => rfl
  | b :: r, k => by
    have ih := listA_flat (kf := kf) (f := f) r b
    unfold flatK at ih ⊢
    rw [List.length_cons, List.range_succ_eq_map, List.flatMap_cons, List.flatMap_map]
    show _ = (((kf k).filter fun x => decide (x < b)).map f ++ listA kf f (b :: r)).map PyData.int
    rw [List.map_append, ← ih, List.map_map]
    rfl
section
variable {P : Program} {w : World} {K : PySem.W.Frag} {mg : Str → Option Value} {base : Heap}
theorem ok_isway {f fR fB fK : Addr} {fd fdR fdB fdK : FuncData} (F : Fun K "is_way" "is_way" s_is_way f fd)
    (FR : Fun K "root" "root" sRoot fR fdR) (bR : Binds K fdR ["web"] []) (gR : mg "root" = some (.ref fR))
    (FB : Fun K "is_between" "is_between" sBetw fB fdB) (bB : Binds K fdB ["value", "low", "high"] []) (gB : mg "is_between" = some (.ref fB))
    (FK : Fun K "children" "children" sKids fK fdK) (bK : Binds K fdK ["web", "kind"] []) (gK : mg "children" = some (.ref fK))
    (m1 : mg "isinstance" = none) (m2 : mg "tuple" = none) (m3 : mg "len" = none) (m4 : mg "all" = none) (m5 : mg "range" = none)
    (GR : FnOk P w K mg base CX0 1 fR fdR ["web"] (spW K fun l inner => natD (topN l inner)))
    (GB : FnOk P w K mg base CX0 2 fB fdB ["value", "low", "high"] (spD K (f3 gBetw)))
    (GK : FnOk P w K mg base CX0 1 fK fdK ["web", "kind"] (spWK K fun l inner k => kidsD (kidsAt l inner k))) :
    FnOk P w K mg base CX0 3 f fd ["web", "value"] (spIsWay K) := by
  refine F.ok scIw (fun vs H Q E h => ?_) (fun cdv A outer s H vs Q E hr h => ?_)
  · obtain ⟨v, x, l, inner, k, w, rfl, _⟩ := h
    rfl
  obtain ⟨v, x, l, inner, k, w, rfl, hv, hw, hk, hx, hI, q⟩ := h
  refine ⟨_, pss_cons (ps_if (pw_or (pt_not (pt_val (pe_callB call_isi (by rfl) m1 (by decide +kernel) (pa_cons (pv 1) (pa_cons (pe_bltn (by rfl) m2 (by decide +kernel) (v := .ty "tuple") rfl) pa_nil))))) (pw_or1 (pt_cmpR op_eq (pe_callB call_len_seq (by rfl) m3 PySem.boot_len (pa_cons (pv 1) pa_nil)) pe_int (nomark _)))).pt (pss_one (ps_ret pe_bl)) pss_nil)
    (pss_cons (ps_if (pt_not (pt_val (pe_callB (cr_all rfl) (by rfl) m4 (by decide +kernel) (pa_cons
        (pe_lc (own := [("item", 2)]) (g := gName 2) (tt := tYes) (te := tCall (spD K (f3 gBetw)) [] E0 (tCons (tVar 2) (tCons (tC (.int 0)) (tCons (tCall (spW K fun l inner => natD (topN l inner)) [] E0 (tCons (tVar 0) tNil)) tNil)))) rfl scIw.nd (pi_tup (pv 1)) (blkOk_by (N := nIw) (sc := defScope s_is_way) (by decide +kernel))
          (fun _ _ _ _ _ => pg_name (i := 2) scIw.nd rfl (Or.inl rfl)) (fun _ _ _ _ _ => pts_nil) (fun _ _ _ _ _ => pe_call GB hr (by rfl) gB FB.kp bB .nil pass0 (pa_cons (pv 2) (pa_cons pe_int (pa_cons (pe_call GR (hr.mono (by decide)) (by rfl) gR FR.kp bR .nil pass0 (pa_cons (pv 0) pa_nil)) pa_nil))))) pa_nil)))) (pss_one (ps_ret pe_bl)) pss_nil)
    (pss_one (ps_ret (pe_callB (cr_all rfl) (by rfl) m4 (by decide +kernel) (pa_cons
        (pe_lc (own := [("at", 3)]) (g := gName 3) (tt := tYes) (te := tOp (rIn K false) (tOp (rIxT K) (tVar 1) (tOp (rI0 fun i j => .int (i + j)) (tVar 3) (tC (.int 1)))) (tCall (spWK K fun l inner k => kidsD (kidsAt l inner k)) [] E0 (tCons (tVar 0) (tCons (tOp (rIxT K) (tVar 1) (tVar 3)) tNil)))) rfl scIw.nd
          (pi_range1 (by rfl) m5 (pa_cons (pe_op op_sub (pe_callB call_len_seq (by rfl) m3 PySem.boot_len (pa_cons (pv 1) pa_nil)) pe_int) pa_nil)) (blkOk_by (N := nIw) (sc := defScope s_is_way) (by decide +kernel))
          (fun _ _ _ _ _ => pg_name (i := 3) scIw.nd rfl (Or.inl rfl)) (fun _ _ _ _ _ => pts_nil) (fun _ _ _ _ _ => pe_cmpR op_in_seq (pe_ix (r := rIxT K) ix_tup (pv 1) (pe_op op_add (pv 3) pe_int) (fun _ _ => rfl)) (pe_call GK (hr.mono (by decide)) (by rfl) gK FK.kp bK .nil pass0 (pa_cons (pv 0) (pa_cons (pe_ix (r := rIxT K) ix_tup (pv 1) (pv 3) (fun _ _ => rfl)) pa_nil))) rfl)) pa_nil))))), ?_⟩
  have h8 := hw.l8
  have h20 := hw.n20
  have hd : ∀ u c, c ∈ kidsAt l inner u → c < u := fun u c h => (kidsAt_lt hw h).2
  obtain ⟨hle, hlen⟩ := isWay_le hd hI
  obtain ⟨W, eW⟩ : ∃ W, W = k :: w := ⟨_, rfl⟩
  have hWl : W.length = w.length + 1 := by rw [eW]; rfl
  rw [← eW] at hx hI hle hlen
  show tSeq (tIfS _ _ _) _ _ [some v, some x, none, none] H
  refine q_when (b := (!true) || false) (et_or (et_not (et_B (ev_isi (ed_var rfl hx) (kit_tup (kidsD W))))) fun _ => et_test (ev_is (ev_op (ed_lenT (K := K) (ds := natDs W) (ed_var rfl hx)) ev_c (rv_eq rfl)) ?_)) (fun z => by cases z) fun _ H1 e1 => ?_
  · show V.bl (decide (V.int _ = V.int _)) = _
    rw [dec_int]
    refine congrArg V.bl (beq_eq_false_iff_ne.mpr ?_)
    unfold natDs
    rw [List.length_map, hWl]
    omega
  show tSeq (tIfS _ _ _) _ _ [some v, some x, none, none] H1
  refine q_when (b := !true) (et_not (et_B (ev_is (ed_all (K := K) (bs := W.map fun _ => true) (ed_is (ed_n (en_natMap (K := K) (fun _ => .bool true) (src_T (ds := natDs W) (ed_var rfl (dp_ex e1 _ hx))) (by omega) (fun _ => rfl) (fun c H2 e2 hc => ?_) fun _ _ => rfl)) (by rw [List.map_map]; rfl))) ?_))) (fun z => by cases z) fun _ H2 e2 => ?_
  · have hck := hle c hc
    refine ed_call (ds := [.int (c : Int), .int 0, .int (topN l inner : Int)]) (eda_cons (ed_i (ev_var rfl)) (eda_cons (ed_i ev_c) (eda_cons (ed_callW (g := fun l inner => natD (topN l inner)) (ed_var rfl (dp_ex (e1.trans e2) _ hv)) hw) eda_nil))) ?_
    show some (PyData.bool (decide (0 ≤ (c : Int)) && decide ((c : Int) ≤ (topN l inner : Int)))) = some (.bool true)
    unfold topN
    rw [decide_eq_true (by omega), decide_eq_true (by omega)]
    rfl
  · congr 1
    rw [List.all_map]
    exact List.all_eq_true.mpr fun _ _ => rfl
  have e12 := e1.trans e2
  refine s_ret (v := .bl true) (ev_is (ed_all (K := K) (bs := (List.range w.length).map fun _ => true) (ed_is (ed_n (en_natMap (K := K) (fun _ => .bool true) (src_rng (n := w.length) (ea_cons (ev_is (ev_op (ed_lenT (K := K) (ds := natDs W) (ed_var rfl (dp_ex e12 _ hx))) ev_c rv_I0) ?_) ea_nil) (by omega)) (by rw [List.length_range]; omega) (fun _ => rfl) (fun c H3 e3 hc => ?_) fun _ _ => rfl)) (by rw [List.map_map]; rfl))) ?_) fun H3 e3 => q H3 (e12.trans e3)
  · show V.int _ = V.int _
    congr 1
    unfold natDs
    rw [List.length_map, hWl]
    omega
  · have hc := List.mem_range.mp hc
    have hx3 := dp_ex (e12.trans e3) _ hx
    have h1 : W[c]? = some (W.getD c 0) := by rw [List.getD_eq_getElem?_getD, List.getElem?_eq_getElem (by omega)]; rfl
    have h2 : W[c + 1]? = some (W.getD (c + 1) 0) := by rw [List.getD_eq_getElem?_getD, List.getElem?_eq_getElem (by omega)]; rfl
    have hlk := isWay_link hI h1 h2
    have ha := hle _ (List.mem_of_getElem? h1)
    refine ed_b (ev_is (ev_inK (K := K) (k := W.getD (c + 1) 0) (ks := kidsAt l inner (W.getD c 0)) (ev_i (K := K) (ed_ixT (n := c + 1) (ds := natDs W) (ed_var rfl hx3) (ed_i (ev_op (ev_var rfl) ev_c rv_I0)) rfl ?_)) (ed_callWK (g := fun l inner k => kidsD (kidsAt l inner k)) (k := W.getD c 0) (ed_var rfl (dp_ex (e12.trans e3) _ hv)) (ed_ixT (n := c) (ds := natDs W) (ed_var rfl hx3) (ed_i (ev_var rfl)) rfl ?_) hw (by omega))) ?_)
    · unfold natDs
      rw [List.getElem?_map, h2]
      rfl
    · unfold natDs
      rw [List.getElem?_map, h1]
      rfl
    · rw [decide_eq_true hlk]
  · congr 1
    rw [List.all_map]
    exact List.all_eq_true.mpr fun _ _ => rfl
theorem ok_place {f fI fW fK : Addr} {fd fdI fdW fdK : FuncData} (F : Fun K "place_of" "place_of" s_place_of f fd)
    (FI : Fun K "is_way" "is_way" s_is_way fI fdI) (bI : Binds K fdI ["web", "value"] []) (gI : mg "is_way" = some (.ref fI))
    (FW : Fun K "ways_to" "ways_to" sWaysTo fW fdW) (bW : Binds K fdW ["web", "to"] []) (gW : mg "ways_to" = some (.ref fW))
    (FK : Fun K "children" "children" sKids fK fdK) (bK : Binds K fdK ["web", "kind"] []) (gK : mg "children" = some (.ref fK))
    (m3 : mg "len" = none) (m4 : mg "sum" = none) (m5 : mg "range" = none)
    (GI : FnOk P w K mg base CX0 3 fI fdI ["web", "value"] (spIsWay K))
    (GW : FnOk P w K mg base CX0 2 fW fdW ["web", "to"] (spWK K fun l inner to => .list (intDs (wayD l inner to))))
    (GK : FnOk P w K mg base CX0 1 fK fdK ["web", "kind"] (spWK K fun l inner k => kidsD (kidsAt l inner k))) :
    FnOk P w K mg base CX0 4 f fd ["web", "value"] (spPlace K) := by
  refine F.ok scPl (fun vs H Q E h => ?_) (fun cdv A outer s H vs Q E hr h => ?_)
  · obtain ⟨v, x, l, inner, k, w, to, rfl, _⟩ := h
    rfl
  obtain ⟨v, x, l, inner, k, w, to, rfl, hv, A', hk, hx, hI, hto, q⟩ := h
  refine ⟨_, pss_cons (ps_if (pt_not (pt_val (pe_call GI hr (by rfl) gI FI.kp bI .nil pass0 (pa_cons (pv 0) (pa_cons (pv 1) pa_nil))))) (pss_one ps_never) pss_nil)
    (pss_cons (ps_set (i := 2) scPl.nd rfl (.inr rfl) (pe_call GW (hr.mono (by decide)) (by rfl) gW FW.kp bW .nil pass0 (pa_cons (pv 0) (pa_cons (pe_ix (r := rIxT K) ix_tup (pv 1) (pe_un un_neg pe_int) (fun _ _ => rfl)) pa_nil))))
    (pss_cons (ps_setLc2 (i := 3) (own := [("at", 4), ("child", 5)]) (vs1 := [5]) (g := gName 4) (g1 := gName 5) (tt := tYes) (tt1 := tTest (tOp (rI0 fun i j => .bl (decide (i < j))) (tVar 5) (tOp (rIxT K) (tVar 1) (tOp (rI0 fun i j => .int (i + j)) (tVar 4) (tC (.int 1))))))
      (wi1 := iTup K (tCall (spWK K fun l inner k => kidsD (kidsAt l inner k)) [] E0 (tCons (tVar 0) (tCons (tOp (rIxT K) (tVar 1) (tVar 4)) tNil)))) (te := tOp (rIxL K) (tVar 2) (tVar 5)) rfl scPl.nd rfl rfl (sw_true rfl rfl rfl (by decide +kernel))
      (pi_range1 (by rfl) m5 (pa_cons (pe_op op_sub (pe_callB call_len_seq (by rfl) m3 PySem.boot_len (pa_cons (pv 1) pa_nil)) pe_int) pa_nil)) (blkOk_by (N := nPl) (sc := defScope s_place_of) (by decide +kernel)) (by decide)
      (fun _ _ _ _ _ => pg_name (i := 4) scPl.nd rfl (Or.inl rfl)) (fun _ _ _ _ _ => pts_nil)
      (fun _ _ _ _ _ => pi_tup (pe_call GK (hr.mono (by decide)) (by rfl) gK FK.kp bK .nil pass0 (pa_cons (pv 0) (pa_cons (pe_ix (r := rIxT K) ix_tup (pv 1) (pv 4) (fun _ _ => rfl)) pa_nil))))
      (fun _ _ _ _ _ => pg_name (i := 5) scPl.nd rfl (Or.inl rfl)) (fun _ _ _ _ _ => pts_one (pt_cmpR op_lt (pv 5) (pe_ix (r := rIxT K) ix_tup (pv 1) (pe_op op_add (pv 4) pe_int) (fun _ _ => rfl)) (nomark _))) (fun _ _ _ _ _ => pe_ix (r := rIxL K) ix_list (pv 2) (pv 5) (fun _ _ => rfl)))
    (pss_one (ps_ret (pe_callB (cr_sum rfl) (by rfl) m4 (by decide +kernel) (pa_cons (pv 3) pa_nil)))))), ?_⟩
  have hw := A'.raw
  have h8 := hw.l8
  have h20 := hw.n20
  have hd : ∀ u c, c ∈ kidsAt l inner u → c < u := fun u c h => (kidsAt_lt hw h).2
  obtain ⟨hle, hlen⟩ := isWay_le hd hI
  have hkd : kidsD (k :: w) = .tuple (natDs (k :: w).dropLast ++ [natD to]) := by
    have hne : k :: w ≠ [] := by simp
    have e : (k :: w).getLast hne = to := by
      rw [List.getLast?_eq_some_getLast hne] at hto
      exact Option.some.inj hto
    show PyData.tuple (natDs (k :: w)) = _
    congr 1
    conv => lhs; rw [← List.dropLast_concat_getLast hne, e]
    unfold natDs
    rw [List.map_append]
    rfl
  have htol : to < l + inner.length := by
    have := hle to (List.mem_of_getLast? hto)
    omega
  let S (x2 x3 : Option V) : L2.St := [some v, some x, x2, x3, none, none]
  show tSeq (tIfS _ _ _) _ _ (S none none) H
  refine q_when (b := !true) (et_not (et_B fun H1 e1 Q1 q1 => ?_)) (fun z => by cases z) fun _ H1 e1 => ?_
  · exact ⟨v, rfl, x, rfl, v, x, l, inner, k, w, rfl, dp_ex e1 _ hv, hw, hk, dp_ex e1 _ hx, hI, fun H2 e2 => q1 H2 e2⟩
  show tSeq _ _ _ (S none none) H1
  have hx1 := dp_ex e1 _ hx
  refine q_asgD (K := K) (d := .list (intDs (wayD l inner to))) (ed_callWK (g := fun l inner to => .list (intDs (wayD l inner to))) (k := to) (ed_var rfl (dp_ex e1 _ hv)) (ed_last (ds := natDs (k :: w).dropLast) (by rw [← hkd]; exact ed_var rfl hx1)) hw htol) fun vc H2 e2 hc => ?_
  show tSeq _ _ _ (S (some vc) none) H2
  have e02 := e1.trans e2
  obtain ⟨W, eW⟩ : ∃ W, W = k :: w := ⟨_, rfl⟩
  have hWl : W.length = w.length + 1 := by rw [eW]; rfl
  have hflat := listA_flat (kf := kidsAt l inner) (f := way (kidsAt l inner) to) w k
  have hsum := listA_sum (kf := kidsAt l inner) (to := to) (k :: w)
  rw [← eW] at hx hI hle hlen hflat hsum q
  have hW0 : ∀ c, c < W.length → W[c]? = some (W.getD c 0) := fun c hc => by rw [List.getD_eq_getElem?_getD, List.getElem?_eq_getElem hc]; rfl
  have hWd : ∀ c, c < W.length → (natDs W)[c]? = some (natD (W.getD c 0)) := fun c hc => by
    unfold natDs
    rw [List.getElem?_map, hW0 c hc]
    rfl
  refine q_asgD (K := K) (d := .list ((listA (kidsAt l inner) (way (kidsAt l inner) to) W).map PyData.int)) (ed_n ?_) fun va H3 e3 ha => ?_
  · rw [← hflat]
    refine en_lc2 (K := K) (n := w.length) (fun i => kidsAt l inner (W.getD i 0)) (fun i c => decide (c < W.getD (i + 1) 0)) (fun _ c => .int (way (kidsAt l inner) to c)) (ea_cons (ev_is (ev_op (ed_lenT (K := K) (ds := natDs W) (ed_var rfl (dp_ex e02 _ hx))) ev_c rv_I0) ?_) ea_nil) (by omega) (fun _ => rfl) (fun _ _ => rfl) (fun i H3 e3 hi => ?_) (fun i hi => kl30 hw) (fun i c H3 e3 hi hc => ?_) (fun i c H3 e3 hi hc' hb => ?_) fun _ _ => rfl
    · show V.int _ = V.int _
      congr 1
      unfold natDs
      rw [List.length_map, hWl]
      omega
    · have := hle _ (List.mem_of_getElem? (hW0 i (by omega)))
      exact ed_callWK (g := fun l inner k => kidsD (kidsAt l inner k)) (k := W.getD i 0) (ed_var rfl (dp_ex (e02.trans e3) _ hv)) (ed_ixT (n := i) (ds := natDs W) (ed_var rfl (dp_ex (e02.trans e3) _ hx)) (ed_i (ev_var rfl)) rfl (hWd i (by omega))) hw (by omega)
    · refine et_test (ev_is (ev_op (ev_var rfl) (ev_i (K := K) (ed_ixT (n := i + 1) (ds := natDs W) (ed_var rfl (dp_ex (e02.trans e3) _ hx)) (ed_i (ev_op (ev_var rfl) ev_c rv_I0)) rfl (hWd (i + 1) (by omega)))) rv_I0) ?_)
      show V.bl _ = V.bl _
      congr 1
      exact decide_eq_decide.mpr (by omega)
    · have hcl := (kidsAt_lt hw hc').1
      exact ed_ixL (n := c) (ds := intDs (wayD l inner to)) (ed_var rfl (dp_ex e3 _ hc)) (ed_i (ev_var rfl)) rfl (wayD_at hcl)
  · refine s_ret (v := .int (placeL (kidsAt l inner) to W)) ?_ fun H4 e4 => q H4 ((e02.trans e3).trans e4)
    rw [← hsum]
    obtain ⟨pa, xs, rfl, hs, hda⟩ := dp_lst ha
    rw [ints_of hda] at hs
    exact fun H4 e4 Q4 q4 => ⟨.ref pa, rfl, pa, _, rfl, ex_l e4 hs, q4 H4 (Ex.refl _)⟩
end
end WR
set_option Elab.async false
set_option linter.all false
set_option maxRecDepth 100000
set_option maxHeartbeats 2000000
namespace WR
open PySem PySem.Spec PyProof.Rows L2 Evl

/-! ### is_way of any value -/
def numI : PyData → Nat
  | .int i => i.toNat
  | _ => 0
def lenD : PyData → Nat
  | .tuple ds => ds.length
  | _ => 0
def linkB (kf : Nat → List Nat) (W : List Nat) : Bool := (List.range (W.length - 1)).all fun c => decide (W.getD (c + 1) 0 ∈ kf (W.getD c 0))
def kindsB (l : Nat) (inner : List (List Nat)) (ds : List PyData) : Bool := ds.all fun d => betw d 0 (topN l inner : Int)
def wayB (l : Nat) (inner : List (List Nat)) : PyData → Bool
  | .tuple ds => !ds.isEmpty && (kindsB l inner ds && linkB (kidsAt l inner) (ds.map numI))
  | _ => false
theorem betw_nat {d : PyData} {m : Int} (h : betw d 0 m = true) : d = natD (numI d) ∧ ((numI d : Nat) : Int) ≤ m := by
  cases d with
  | int i =>
    have h : (decide (0 ≤ i) && decide (i ≤ m)) = true := h
    rw [Bool.and_eq_true, decide_eq_true_eq, decide_eq_true_eq] at h
    have e : ((i.toNat : Nat) : Int) = i := Int.toNat_of_nonneg h.1
    refine ⟨?_, ?_⟩
    · show PyData.int i = PyData.int _
      congr 1
      exact e.symm
    · show ((i.toNat : Nat) : Int) ≤ m
      omega
  | _ => cases h
theorem kinds_nat {l : Nat} {inner : List (List Nat)} (hl : 1 ≤ l) : ∀ {ds : List PyData}, kindsB l inner ds = true → ds = natDs (ds.map numI) ∧ ∀ c ∈ ds.map numI, c < l + inner.length
  | [], _ => ⟨rfl, fun c hc => by cases hc⟩
  | d :: ds, h => by
    have h : (betw d 0 (topN l inner : Int) && kindsB l inner ds) = true := h
    rw [Bool.and_eq_true] at h
    obtain ⟨h1, h2⟩ := betw_nat h.1
    obtain ⟨i1, i2⟩ := kinds_nat hl h.2
    refine ⟨?_, fun c hc => ?_⟩
    · show d :: ds = natD (numI d) :: natDs (ds.map numI)
      rw [← h1, ← i1]
    · rcases List.mem_cons.mp hc with rfl | hc
      · unfold topN at h2
        omega
      · exact i2 c hc
theorem linkB_iff {kf : Nat → List Nat} : ∀ {W : List Nat}, W ≠ [] → (linkB kf W = true ↔ isWayL kf W)
  | [], h => absurd rfl h
  | [a], _ => by
    show ((List.range 0).all _ = true) ↔ True
    simp
  | a :: b :: r, _ => by
    have ih := linkB_iff (kf := kf) (W := b :: r) (by simp)
    show _ ↔ b ∈ kf a ∧ isWayL kf (b :: r)
    rw [← ih]
    unfold linkB
    rw [show (a :: b :: r).length - 1 = ((b :: r).length - 1) + 1 from rfl, List.range_succ_eq_map, List.all_cons, List.all_map, Bool.and_eq_true]
    constructor
    · rintro ⟨h1, h2⟩
      exact ⟨by simpa using h1, h2⟩
    · rintro ⟨h1, h2⟩
      exact ⟨by simpa using h1, h2⟩
theorem wayB_iff {l : Nat} {inner : List (List Nat)} {W : List Nat} (hl : 1 ≤ l) (hW : ∀ c ∈ W, c < l + inner.length) (hne : W ≠ []) : wayB l inner (kidsD W) = true ↔ isWayL (kidsAt l inner) W := by
  have hk : kindsB l inner (natDs W) = true := List.all_eq_true.mpr fun d hd => by
    obtain ⟨c, hc, rfl⟩ := List.mem_map.mp hd
    have := hW c hc
    show (decide ((0 : Int) ≤ (c : Int)) && decide ((c : Int) ≤ (topN l inner : Int))) = true
    unfold topN
    rw [decide_eq_true (by omega), decide_eq_true (by omega)]
    rfl
  have he : (natDs W).isEmpty = false := by
    cases W with
    | nil => exact absurd rfl hne
    | cons _ _ => rfl
  have hm : (natDs W).map numI = W := by
    unfold natDs
    rw [List.map_map]
    exact List.map_id'' (fun c => Int.toNat_natCast c) W
  show (!(natDs W).isEmpty && (kindsB l inner (natDs W) && linkB (kidsAt l inner) ((natDs W).map numI))) = true ↔ _
  rw [he, hk, hm]
  simp only [Bool.not_false, Bool.true_and]
  exact linkB_iff hne
def spIsWayX (K : PySem.W.Frag) : Sp := fun vs H Q _ => ∃ v x d l inner, vs = [v, x] ∧ Dp K H v (webD l inner) ∧ Raw l inner ∧ Dp K H x d ∧ lenD d ≤ 1000 ∧ ∀ H', Ex H H' → Q (.bl (wayB l inner d)) H'
section
variable {P : Program} {w : World} {K : PySem.W.Frag} {mg : Str → Option Value} {base : Heap}
theorem ok_iswayX {f fR fB fK : Addr} {fd fdR fdB fdK : FuncData} (F : Fun K "is_way" "is_way" s_is_way f fd)
    (FR : Fun K "root" "root" sRoot fR fdR) (bR : Binds K fdR ["web"] []) (gR : mg "root" = some (.ref fR))
    (FB : Fun K "is_between" "is_between" sBetw fB fdB) (bB : Binds K fdB ["value", "low", "high"] []) (gB : mg "is_between" = some (.ref fB))
    (FK : Fun K "children" "children" sKids fK fdK) (bK : Binds K fdK ["web", "kind"] []) (gK : mg "children" = some (.ref fK))
    (m1 : mg "isinstance" = none) (m2 : mg "tuple" = none) (m3 : mg "len" = none) (m4 : mg "all" = none) (m5 : mg "range" = none)
    (GR : FnOk P w K mg base CX0 1 fR fdR ["web"] (spW K fun l inner => natD (topN l inner)))
    (GB : FnOk P w K mg base CX0 2 fB fdB ["value", "low", "high"] (spD K (f3 gBetw)))
    (GK : FnOk P w K mg base CX0 1 fK fdK ["web", "kind"] (spWK K fun l inner k => kidsD (kidsAt l inner k))) :
    FnOk P w K mg base CX0 3 f fd ["web", "value"] (spIsWayX K) := by
  refine F.ok scIw (fun vs H Q E h => ?_) (fun cdv A outer s H vs Q E hr h => ?_)
  · obtain ⟨v, x, d, l, inner, rfl, _⟩ := h
    rfl
  obtain ⟨v, x, d, l, inner, rfl, hv, hw, hx, hlen, q⟩ := h
  refine ⟨_, pss_cons (ps_if (pw_or (pt_not (pt_val (pe_callB call_isi (by rfl) m1 (by decide +kernel) (pa_cons (pv 1) (pa_cons (pe_bltn (by rfl) m2 (by decide +kernel) (v := .ty "tuple") rfl) pa_nil))))) (pw_or1 (pt_cmpR op_eq (pe_callB call_len_seq (by rfl) m3 PySem.boot_len (pa_cons (pv 1) pa_nil)) pe_int (nomark _)))).pt (pss_one (ps_ret pe_bl)) pss_nil)
    (pss_cons (ps_if (pt_not (pt_val (pe_callB (cr_all rfl) (by rfl) m4 (by decide +kernel) (pa_cons
        (pe_lc (own := [("item", 2)]) (g := gName 2) (tt := tYes) (te := tCall (spD K (f3 gBetw)) [] E0 (tCons (tVar 2) (tCons (tC (.int 0)) (tCons (tCall (spW K fun l inner => natD (topN l inner)) [] E0 (tCons (tVar 0) tNil)) tNil)))) rfl scIw.nd (pi_tup (pv 1)) (blkOk_by (N := nIw) (sc := defScope s_is_way) (by decide +kernel))
          (fun _ _ _ _ _ => pg_name (i := 2) scIw.nd rfl (Or.inl rfl)) (fun _ _ _ _ _ => pts_nil) (fun _ _ _ _ _ => pe_call GB hr (by rfl) gB FB.kp bB .nil pass0 (pa_cons (pv 2) (pa_cons pe_int (pa_cons (pe_call GR (hr.mono (by decide)) (by rfl) gR FR.kp bR .nil pass0 (pa_cons (pv 0) pa_nil)) pa_nil))))) pa_nil)))) (pss_one (ps_ret pe_bl)) pss_nil)
    (pss_one (ps_ret (pe_callB (cr_all rfl) (by rfl) m4 (by decide +kernel) (pa_cons
        (pe_lc (own := [("at", 3)]) (g := gName 3) (tt := tYes) (te := tOp (rIn K false) (tOp (rIxT K) (tVar 1) (tOp (rI0 fun i j => .int (i + j)) (tVar 3) (tC (.int 1)))) (tCall (spWK K fun l inner k => kidsD (kidsAt l inner k)) [] E0 (tCons (tVar 0) (tCons (tOp (rIxT K) (tVar 1) (tVar 3)) tNil)))) rfl scIw.nd
          (pi_range1 (by rfl) m5 (pa_cons (pe_op op_sub (pe_callB call_len_seq (by rfl) m3 PySem.boot_len (pa_cons (pv 1) pa_nil)) pe_int) pa_nil)) (blkOk_by (N := nIw) (sc := defScope s_is_way) (by decide +kernel))
          (fun _ _ _ _ _ => pg_name (i := 3) scIw.nd rfl (Or.inl rfl)) (fun _ _ _ _ _ => pts_nil) (fun _ _ _ _ _ => pe_cmpR op_in_seq (pe_ix (r := rIxT K) ix_tup (pv 1) (pe_op op_add (pv 3) pe_int) (fun _ _ => rfl)) (pe_call GK (hr.mono (by decide)) (by rfl) gK FK.kp bK .nil pass0 (pa_cons (pv 0) (pa_cons (pe_ix (r := rIxT K) ix_tup (pv 1) (pv 3) (fun _ _ => rfl)) pa_nil))) rfl)) pa_nil))))), ?_⟩
  have h1 := hw.l1
  have h8 := hw.l8
  have h20 := hw.n20
  show tSeq (tIfS _ _ _) _ _ [some v, some x, none, none] H
  by_cases ht : isTup d = false
  · have hno : wayB l inner d = false := by
      cases d with
      | tuple _ => cases ht
      | _ => rfl
    refine q_when (b := (!false) || true) (et_or (et_not (et_B (ev_isi (ed_var rfl hx) (by rw [kit_tup, ht])))) fun z => by cases z) (fun _ H1 e1 => ?_) fun z => by cases z
    exact s_ret (v := .bl false) ev_c fun H2 e2 => by
      have := q H2 (e1.trans e2)
      rw [hno] at this
      exact this
  obtain ⟨ds, rfl⟩ : ∃ ds, d = .tuple ds := by
    cases d with
    | tuple ds => exact ⟨ds, rfl⟩
    | _ => exact absurd rfl ht
  have hlen : ds.length ≤ 1000 := hlen
  refine q_when (b := (!true) || ds.isEmpty) (et_or (et_not (et_B (ev_isi (ed_var rfl hx) (kit_tup (.tuple ds))))) fun _ => et_test (ev_is (ev_op (ed_lenT (K := K) (ds := ds) (ed_var rfl hx)) ev_c (rv_eq rfl)) ?_)) (fun z H1 e1 => ?_) fun z H1 e1 => ?_
  · show V.bl (decide (V.int _ = V.int _)) = _
    rw [dec_int]
    cases ds with
    | nil => rfl
    | cons a r =>
      refine congrArg V.bl (beq_eq_false_iff_ne.mpr ?_)
      rw [List.length_cons]
      omega
  · have hno : wayB l inner (.tuple ds) = false := by
      show (!ds.isEmpty && _) = false
      rw [show ds.isEmpty = true by simpa using z]
      rfl
    exact s_ret (v := .bl false) ev_c fun H2 e2 => by
      have := q H2 (e1.trans e2)
      rw [hno] at this
      exact this
  have hne : ds.isEmpty = false := by simpa using z
  show tSeq (tIfS _ _ _) _ _ [some v, some x, none, none] H1
  refine q_when (b := !kindsB l inner ds) (et_not (et_B (ev_is (ed_all (K := K) (bs := ds.map fun d => betw d 0 (topN l inner : Int)) (ed_is (ed_n (en_lc (K := K) (j := 2) (vs := [2]) (fun d => some (.bool (betw d 0 (topN l inner : Int)))) (src_T (ds := ds) (ed_var rfl (dp_ex e1 _ hx))) (by omega) (fun _ => rfl) (fun d y H2 e2 hd hy => et_yes) (fun d r y H2 e2 hd hy hr' => ?_) fun d r hd hr' => ?_)) ?_)) ?_))) (fun z H2 e2 => ?_) fun z H2 e2 => ?_
  · cases hr'
    exact ed_call (ds := [d, .int 0, .int (topN l inner : Int)]) (eda_cons (ed_var rfl hy) (eda_cons (ed_i ev_c) (eda_cons (ed_callW (g := fun l inner => natD (topN l inner)) (ed_var rfl (dp_ex (e1.trans e2) _ hv)) hw) eda_nil))) rfl
  · cases hr'
    rfl
  · rw [List.map_map]
    congr 1
    exact (List.filterMap_eq_map (f := fun d => PyData.bool (betw d 0 (topN l inner : Int)))).symm ▸ rfl
  · congr 1
    rw [List.all_map]
    rfl
  · have hno : wayB l inner (.tuple ds) = false := by
      show (!ds.isEmpty && (kindsB l inner ds && _)) = false
      rw [show kindsB l inner ds = false by simpa using z]
      simp
    exact s_ret (v := .bl false) ev_c fun H3 e3 => by
      have := q H3 ((e1.trans e2).trans e3)
      rw [hno] at this
      exact this
  have hks : kindsB l inner ds = true := by simpa using z
  obtain ⟨eds, hlt⟩ := kinds_nat h1 hks
  obtain ⟨W, eW⟩ : ∃ W, W = ds.map numI := ⟨_, rfl⟩
  rw [← eW] at eds hlt
  have hyes : wayB l inner (.tuple ds) = linkB (kidsAt l inner) W := by
    show (!ds.isEmpty && (kindsB l inner ds && linkB (kidsAt l inner) (ds.map numI))) = _
    rw [hne, hks, ← eW]
    rfl
  have hWl : W.length = ds.length := by rw [eW, List.length_map]
  have hpos : 1 ≤ ds.length := by
    cases ds with
    | nil => cases hne
    | cons _ _ => simp
  have e12 := e1.trans e2
  have hx2 : ∀ {H' : Hp}, Ex H H' → Dp K H' x (.tuple (natDs W)) := fun e => by
    rw [← eds]
    exact dp_ex e _ hx
  refine s_ret (v := .bl (linkB (kidsAt l inner) W)) (ev_is (ed_all (K := K) (bs := (List.range (W.length - 1)).map fun c => decide (W.getD (c + 1) 0 ∈ kidsAt l inner (W.getD c 0))) (ed_is (ed_n (en_natMap (K := K) (fun c => .bool (decide (W.getD (c + 1) 0 ∈ kidsAt l inner (W.getD c 0)))) (src_rng (n := W.length - 1) (ea_cons (ev_is (ev_op (ed_lenT (K := K) (ds := natDs W) (ed_var rfl (hx2 e12))) ev_c rv_I0) ?_) ea_nil) (by omega)) (by rw [List.length_range]; omega) (fun _ => rfl) (fun c H3 e3 hc => ?_) fun _ _ => rfl)) (by rw [List.map_map]; rfl))) ?_) fun H3 e3 => by
      have := q H3 (e12.trans e3)
      rw [hyes] at this
      exact this
  · show V.int _ = V.int _
    congr 1
    unfold natDs
    rw [List.length_map]
    omega
  · have hc := List.mem_range.mp hc
    have hx3 := hx2 (e12.trans e3)
    have h1 : W[c]? = some (W.getD c 0) := by rw [List.getD_eq_getElem?_getD, List.getElem?_eq_getElem (by omega)]; rfl
    have h2 : W[c + 1]? = some (W.getD (c + 1) 0) := by rw [List.getD_eq_getElem?_getD, List.getElem?_eq_getElem (by omega)]; rfl
    have ha := hlt _ (List.mem_of_getElem? h1)
    refine ed_b (ev_inK (K := K) (k := W.getD (c + 1) 0) (ks := kidsAt l inner (W.getD c 0)) (ev_i (K := K) (ed_ixT (n := c + 1) (ds := natDs W) (ed_var rfl hx3) (ed_i (ev_op (ev_var rfl) ev_c rv_I0)) rfl ?_)) (ed_callWK (g := fun l inner k => kidsD (kidsAt l inner k)) (k := W.getD c 0) (ed_var rfl (dp_ex (e12.trans e3) _ hv)) (ed_ixT (n := c) (ds := natDs W) (ed_var rfl hx3) (ed_i (ev_var rfl)) rfl ?_) hw (by omega)))
    · unfold natDs
      rw [List.getElem?_map, h2]
      rfl
    · unfold natDs
      rw [List.getElem?_map, h1]
      rfl
  · congr 1
    rw [List.all_map]
    rfl
end
end WR
set_option Elab.async false
set_option linter.all false
set_option maxRecDepth 100000
set_option maxHeartbeats 2000000
namespace PySem
namespace LowX
open PySem.W PySem.Calls PyProof.Rows PySem.HandSPX
/-! ### the text of __init__ -/
def iA (p1 p2 : Pos) : Arguments := { posonlyargs := [], args := [{ arg := "self", annotation := none, pos := p1 }, { arg := "value", annotation := none, pos := p2 }], vararg := none, kwonlyargs := [], kw_defaults := [], kwarg := none, defaults := [] }
def iB (q1 q2 q3 q4 : Pos) : List Stmt := [.Assign [.Attribute (.Name "self" q1) "value" q2] (.Name "value" q3) q4]
def iS : Scope := { kind := .function, names := [(PySem.Str.ofString "self", .local), (PySem.Str.ofString "value", .local)], isGenerator := false, isCoroutine := false, more := [] }
/-- what the written part says of Low, at C, and of its __init__, at fI -/
structure LowTxt (K : Frag) (mg : Str → Option Value) (C fI : Addr) : Prop where
  gC : mg "NoWay" = some (.ref C)
  cls : ∃ nm q N bs bm sn sub ab col dd k0 k1 k2 k3 k5, K.lookup C = some (excClassObj nm q C N bs bm true sn sub ab col dd k0 k1 k2 k3 k5 "ValueError.__new__") ∧ refsVE bm = true
  sa : findIn K (.ref C) "__setattr__" = some (some (.builtin "object.__setattr__"))
  ga : findIn K (.ref C) "__getattribute__" = some (some (.builtin "BaseException.__getattribute__"))
  gg : findIn K (.ref C) "__getattr__" = some none
  noN : findIn K (.ref C) "value" = some none
  iC : findIn K (.ref C) "__init__" = some (some (.ref fI))
  tC : typeIn K (.ref fI) = some (.type "function")
  kC : keepIn K (.ref C) = true
  exC : subIn K (.ref C) (.type "BaseException") = some true
  tyC : typeIn K (.ref C) = some (.type "type")
  hdC : hasDictIn K C = true
  te : exmOne K (.ref C) (.ref C) = some true
  fn : ∃ (oc : Value) (od : Option Addr) (doc pm : Value) (an : Option Addr) (cdv ct : Value) (osl : Array (Option Value)) (p1 p2 q1 q2 q3 q4 : Pos),
    K.lookup fI = some ⟨oc, od, .func (fnOf "__init__" "NoWay.__init__" (iA p1 p2) (iB q1 q2 q3 q4) iS .none .none doc pm an cdv ct), osl⟩ ∧ codeIn K cdv "NoWay.__init__" = true
theorem one_size (v : Value) : [v].length ≤ sizeLine := by
  rw [sizeLine_eq]
  exact (by decide : 1 ≤ 16777216)
theorem kept_but {K : Frag} {h h' : Heap} {x : Addr} (X : K.In h) (hx : K.lookup x = none) (k : ∀ b o, b ≠ x → h.get? b = some o → h'.get? b = some o) : K.In h' := fun a o e =>
  k a o (fun z => by rw [z, hx] at e; cases e) (X a o e)
theorem ldC {M : Model} {s : Shared} {name : Str} {scope : Scope} {L a : Addr} {cd : Value} {m : Str → Option Value} {x : Str} {pos : Pos} {v : Value} {Q : Value → Shared → Prop} {A : Around} {E : Value → Shared → Prop} (hn : s.heap.Ns L m) (hv : m x = some v) (h : Q v s)
    (hk : scope.kind = .function := by rfl) (hl : (envOfC name scope L a cd).kindOf x = some .local := by rfl) (hd : (x == ("__debug__" : Str)) = false := by decide) :
    wpAny M A (eval (.Name x pos) (envOfC name scope L a cd)) Q E s := wpAny_Name (wpAny_loadName_local hk hl hn hv h) hd
/-- what __init__ leaves of a fresh exception at x -/
structure InitEnd (h h' : Heap) (x C dx t1 : Addr) (v : Value) : Prop where
  keep : ∀ b o, b ≠ x → h.get? b = some o → h'.get? b = some o
  obj : h'.get? x = some { cls := .ref C, dict := some dx, data := .fields #[.ref t1, .none, .none, .none, .bool false, .none] }
  dbig : h.objs.size ≤ dx
  dne : dx ≠ x
  ns : h'.Ns1 dx (fun y => if y = "value" then some v else none)
/-- a made Low -/
structure OwnMade (h h' : Heap) (e C d : Addr) (v : Value) : Prop where
  keep : ∀ b o, h.get? b = some o → h'.get? b = some o
  new : h.objs.size ≤ e
  obj : ∃ oe vs, h'.get? e = some oe ∧ oe.cls = .ref C ∧ oe.dict = some d ∧ oe.data = .fields vs ∧ vs[1]? = some .none
  dbig : h.objs.size ≤ d
  dne : d ≠ e
  ns : h'.Ns1 d (fun y => if y = "value" then some v else none)
section
variable {prog : Program} {w : World} {A : Around} {E : Value → Shared → Prop} {R : Result → Shared → Prop} {s : Shared} {K : Frag} {mg : Str → Option Value} {C fI : Addr}
theorem low_init (T : LowTxt K mg C fI) {x t0 : Addr} {v : Value} (X : K.In s.heap) (hlim : s.heap.NoLimit) (hx : s.heap.get? x = some (excO C t0)) (hnx : K.lookup x = none) (hroom : A.depth < recursionLimit)
    (hq : ∀ h' tk dx, InitEnd s.heap h' x C dx t0 v → R (.ok (.ret .none)) { s with heap := h', toks := tk }) :
    codeAny (model prog w) A (.call (.ref fI) ⟨[.ref x, v], []⟩) R s := by
  obtain ⟨oc, od, doc, pm, an, cdv, ct, osl, p1, p2, q1, q2, q3, q4, ho, hcd⟩ := T.fn
  obtain ⟨nm, q, N, bs, bm, sn, sub, ab, col, dd, k0, k1, k2, k3, k5, hC, hbm⟩ := T.cls
  have hcl : clsIn K C = some { name := nm, bases := bs, mro := .ref C :: bm, ns := N, qualname := q, hasDict := true, slotNames := sn, subclasses := sub, abstract := ab, collection := col, hasDel := false } := by unfold clsIn; rw [hC] <;> rfl
  refine Att.call_fn (binds := [("self", .ref x), ("value", v)]) X hlim ho hcd hroom (BindsTo.of_eq (by first | rfl | with_unfolding_all rfl)) (by first | rfl | decide | with_unfolding_all rfl) (fun s₁ IC => ?_) rfl rfl rfl
  obtain ⟨h₁, tk₁, rfl⟩ := IC.toInCall.same
  have k : ∀ b o, s.heap.get? b = some o → h₁.get? b = some o := IC.toInCall.keep
  have hn := IC.toInCall.ns
  have hxL : s.heap.objs.size ≠ x := Nat.ne_of_gt (Heap.lt_size hx)
  have X₁ : K.In h₁ := X.keeps k
  have hx₁ := k _ _ hx
  -- self.by = by
  show wpAny _ _ (execs _ _) _ _ _
  refine wpAny_execs_cons (plainObj_wpAny_Assign_Attribute ?_)
  refine ldC (v := v) hn (by first | rfl | with_unfolding_all rfl | kernel_rfl) (ldC (v := .ref x) hn (by first | rfl | with_unfolding_all rfl | kernel_rfl) ?_)
  refine set_plain X₁ (ox := excO C t0) (od := none) ⟨hx₁, rfl, rfl, trivial⟩ T.sa ?_
  refine exc_osa X₁ hx₁ hcl (show refsVE (.ref C :: bm) = true from hbm) rfl T.noN (fun h₃ tk₃ dx k₃ dn dne hx₃ hn₃ => ?_)
  show wpAny _ _ (execs _ _) _ _ _
  have z : s.heap.objs.size < h₁.objs.size := hn.lt
  exact wpAny_execs_nil (hq h₃ tk₃ dx ⟨fun b o hb e => k₃ b o hb (k b o e), hx₃, Nat.le_of_lt (Nat.lt_of_lt_of_le z dn), dne, hn₃⟩)
theorem low_made (T : LowTxt K mg C fI) {v : Value} (X : K.In s.heap) (hlim : s.heap.NoLimit) (hroom : A.depth + 1 < recursionLimit)
    (hq : ∀ h' tk e d, OwnMade s.heap h' e C d v → R (.ok (.ret (.ref e))) { s with heap := h', toks := tk }) :
    codeAny (model prog w) A (.call (.ref C) ⟨[v], []⟩) R s := by
  obtain ⟨nm, q, N, bs, bm, sn, sub, ab, col, dd, k0, k1, k2, k3, k5, hC, hbm⟩ := T.cls
  obtain ⟨hp, g, dr, tk, os⟩ := s
  have k : ∀ b o, hp.get? b = some o → ((hp.push (kdv_tup [v])).push (excO C hp.objs.size)).get? b = some o := fun b o e => Heap.get?_push_of_some _ (Heap.get?_push_of_some _ e)
  have hget : ((hp.push (kdv_tup [v])).push (excO C hp.objs.size)).get? (hp.objs.size + 1) = some (excO C hp.objs.size) := by heap_get
  have hnx : K.lookup (hp.objs.size + 1) = none := by
    cases e : K.lookup (hp.objs.size + 1) with
    | none => rfl
    | some o =>
      have z : hp.get? (hp.objs.size + 1) = some o := X _ _ e
      exact absurd (Nat.lt_of_succ_lt (Heap.lt_size z)) (Nat.lt_irrefl _)
  refine call_own F.excBase_ValueError (fun X => refsVE_contains X bm hbm) (X _ _ hC) (looks_findIn X T.iC) (fun self => bind_fn X self T.tC) (one_size v) ?_
  refine low_init (s := ⟨(hp.push (kdv_tup [v])).push (excO C hp.objs.size), g, dr, tk, os⟩) T (X.keeps k) (hlim.keeps k) hget hnx ?_ fun h' tk' dx ⟨k', hx, dn, dne, hns⟩ => ?_
  · show A.depth + 1 < recursionLimit
    exact hroom
  · have old : ∀ b o, hp.get? b = some o → h'.get? b = some o := fun b o e => k' b o (Nat.ne_of_lt (Nat.lt_succ_of_lt (Heap.lt_size e))) (k b o e)
    have z : hp.objs.size + 1 + 1 ≤ dx := by
      first
        | (simpa only [Heap.size_push] using dn)
        | exact dn
        | (have q := dn; rw [Heap.size_push, Heap.size_push] at q; exact q)
    exact ⟨rfl, hq h' tk' (hp.objs.size + 1) dx ⟨old, Nat.le_succ _, ⟨_, _, hx, rfl, rfl, rfl, rfl⟩, Nat.le_trans (Nat.le_trans (Nat.le_succ _) (Nat.le_succ _)) z, dne, hns⟩⟩
end
end LowX
end PySem
namespace L2
open PySem PySem.Spec PyProof.Rows
theorem relO_low {v : V} {v' : Value} (r : RelV v v') (f : Str) : RelO (List.lookup f [(("value" : Str), v)]) (if f = "value" then some v' else none) := by
  by_cases hw : f = "value"
  · subst hw
    rw [if_pos rfl]
    have q : List.lookup ("value" : Str) [(("value" : Str), v)] = some v := by simp [List.lookup]
    rw [q]
    exact r
  · rw [if_neg hw]
    have qw : (f == ("value" : Str)) = false := by simpa using hw
    have q2 : List.lookup f [(("value" : Str), v)] = none := by simp [List.lookup, qw]
    rw [q2]
    trivial
section
variable {X : Cx} {C fI : Addr}
/-- Low(e) -/
def tMkLow (C : Addr) (ta : TA) : St → Hp → XK → Prop := fun σ H Q => ta σ H fun vs H1 => ∃ v, vs = [v] ∧ ∀ d, H1 d = none → Q (.ref C) (some d) (upd H1 d (.xd [(("value" : Str), v)]))
theorem pmk_low {a : Expr} {ta : TA} {p pos : Pos} {k : Nat} (T : PySem.LowX.LowTxt X.K X.mg C fI) (hr : Room k X.A) (ha : PA X [a] ta) (hg : Gl X "NoWay" := by rfl)
    (he : starEach (a :: []) X.env = (false, eval a X.env) :: starEach [] X.env := by rfl) (hpl : (backTo pos (starEach [] X.env)).any (·.1) = false := by rfl) :
    PMk X (.Call (.Name "NoWay" p) [a] [] pos) (tMkLow C ta) := by
  intro pins s σ H Q I h
  refine wpAny_Call_Name_kw (ld_glob I hg T.gC ?_)
  refine PySem.W.callWith_K (h₀ := X.base) I.ok.mod.kin T.kC (thn (ha.run pos pins s σ H _ I h) fun us s1 hh => ?_) he hpl
  obtain ⟨vs, H1, I1, r1, v, ev, q1⟩ := hh
  subst ev
  refine ⟨I1.kIn, ?_⟩
  cases r1 with
  | cons rv rn =>
    rename_i v' us'
    cases rn
    show wpAny _ _ (call (.ref C) [v']) _ _ _
    have hlim := I1.nolimit
    obtain ⟨hp, g, dr, tk, os⟩ := s1
    refine wpAny_call (PySem.LowX.low_made T I1.kIn hlim (by have := hr.dp; omega) fun h' tk' e d M => ?_)
    show MkP X pins σ Q (.ref e) ⟨h', g, dr, tk', os⟩
    obtain ⟨oe, fv, hoe, hc, hd, hdat, h1⟩ := M.obj
    have hns := M.ns
    obtain ⟨G', g1, g2⟩ := restrict h' fun b => decide (b ≠ e)
    have gk : ∀ b, b ≠ e → G'.get? b = h'.get? b := fun b hb => g1 b (decide_eq_true hb)
    have ge : G'.get? e = none := g2 e (by simp)
    have old : ∀ b o, hp.get? b = some o → G'.get? b = some o := fun b o q => (gk b (Nat.ne_of_lt (Nat.lt_of_lt_of_le (Heap.lt_size q) M.new))).trans (M.keep b o q)
    have ob : ObjOk X.prog X.w (upd H1 d (.xd [(("value" : Str), v)])) G' d (.xd [(("value" : Str), v)]) :=
      ⟨_, hns.at (fun o q => (gk d M.dne).trans q), fun f => relO_low rv f⟩
    have J : Inv X pins σ (upd H1 d (.xd [(("value" : Str), v)])) ⟨G', g, dr, tk', os⟩ := I1.laid (t' := tk') old M.dbig ob
    refine ⟨e, oe, fv, ⟨G', g, dr, tk', os⟩, _, .ref C, some d, rfl, J, fun b o q => ?_, ge, hoe, ⟨hc, hd⟩, hdat, h1, ?_, rfl, I1.bare, raises_own T.exC T.tyC, q1 d (I1.hok.fresh M.dbig)⟩
    · by_cases hb : b = e
      · have q' : G'.get? b = some o := q
        rw [hb, ge] at q'; cases q'
      · exact (gk b hb).symm.trans q
    · rw [upd_ne (Ne.symm M.dne)]
      exact I1.hok.fresh M.new
/-- raise Low(e) -/
def tRaiseLow (C : Addr) (W : WX) (ta : TA) : TS := fun _ σ H => tMkLow C ta σ H fun cls d H' => W cls d σ H'
theorem ps_raiseLow {a : Expr} {ta : TA} {W : WX} {p pos pos2 : Pos} {k : Nat} (hc : X.calm = true) (T : PySem.LowX.LowTxt X.K X.mg C fI) (hr : Room k X.A) (tk : Takes X W) (ha : PA X [a] ta) (hg : Gl X "NoWay" := by rfl)
    (he : starEach (a :: []) X.env = (false, eval a X.env) :: starEach [] X.env := by rfl) (hpl : (backTo pos (starEach [] X.env)).any (·.1) = false := by rfl) :
    PS X (.Raise (some (.Call (.Name "NoWay" p) [a] [] pos)) none pos2) (tRaiseLow C W ta) := ps_raise hc tk (pmk_low T hr ha hg he hpl)
/-- low.by, low the exception that the suite holds (at a; its class cls, its dict d) -/
def tByLow (C : Addr) (a : Addr) (cls : Value) (d : Option Addr) (te : TE) : TE := fun σ H Q => te σ H fun x H1 => x = .ref a ∧ cls = .ref C ∧ ∃ (dd : Addr) (v : V), d = some dd ∧ H1 dd = some (.xd [(("value" : Str), v)]) ∧ Q v H1
theorem pe_byLow {a : Addr} {oe : Obj} {cls : Value} {d : Option Addr} {pn : List (Addr × Obj)} {e : Expr} {te : TE} {pos : Pos} (T : PySem.LowX.LowTxt X.K X.mg C fI) (hz : Zc cls d oe) (hf : ∃ vs, oe.data = .fields vs) (he : PE (X.suite a ((a, oe) :: pn)) e te)
    (hb : attributeBase e "value" X.env (eval e X.env) = eval e X.env := by rfl) :
    PE (X.suite a ((a, oe) :: pn)) (.Attribute e "value" pos) (tByLow C a cls d te) := by
  refine ⟨fun pins s σ H Q I h => ?_⟩
  refine attr_of hb (thn (he.run pins s σ H _ I h) fun u s1 hh => ?_)
  obtain ⟨x, H1, I1, rx, ex, ec, dd, v, ed, ea, q⟩ := hh
  subst ex
  obtain rfl : u = Value.ref a := rx
  subst ec
  subst ed
  obtain ⟨ha, _⟩ := I1.pin (a, oe) (List.mem_append_left _ List.mem_cons_self)
  obtain ⟨vs, hd⟩ := hf
  have hx : ObjOk X.prog X.w H1 s1.heap dd (.xd [(("value" : Str), v)]) := I1.hok dd _ ea
  obtain ⟨mA, hns, hr⟩ := hx
  obtain ⟨od, ho, hl⟩ := lookIn_ns hns
  have l : List.lookup ("value" : Str) [(("value" : Str), v)] = some v := by simp [List.lookup]
  obtain ⟨u, hu, ru⟩ := RelO.some_of (v := v) (o := mA "value") (by rw [← l]; exact hr "value")
  have J : PySem.W.InstAt s1.heap a oe C (some od) := ⟨ha, hz.1, by unfold PySem.W.notCls; rw [hd] <;> rfl, by rw [hz.2]; exact ho⟩
  exact HandSPX.exc_get I1.kIn J T.ga T.gg T.exC (PySem.W.findObj_own T.hdC T.noN rfl (by rw [hl, hu])) (handed_of ru) ⟨v, H1, I1.tok _, ru, q⟩
end
end L2

namespace WR
open PySem PySem.Spec PyProof.Rows L2
/-- an error of the class at S is what «except S» names -/
theorem exm_self {K : PySem.W.Frag} {S : Addr} (h1 : PySem.W.subIn K (.ref S) (.type "BaseException") = some true) (h2 : PySem.W.isClsIn K S = true) (h3 : PySem.W.typeIn K (.ref S) = some (.type "type")) (h4 : PySem.W.subIn K (.ref S) (.ref S) = some true) :
    PySem.W.exmOne K (.ref S) (.ref S) = some true := by
  have e1 : (PySem.W.subIn K (.ref S) (.type "BaseException") == some true) = true := by rw [h1] <;> rfl
  have e2 : ((PySem.W.clsIn K S).isSome && PySem.W.typeIn K (.ref S) == some (.type "type")) = true := by
    have h2' : (PySem.W.clsIn K S).isSome = true := h2
    rw [h2', h3] <;> rfl
  show (if (PySem.W.subIn K (.ref S) (.type "BaseException") == some true) = true then (if ((PySem.W.clsIn K S).isSome && PySem.W.typeIn K (.ref S) == some (.type "type")) = true then PySem.W.subIn K (.ref S) (.ref S) else none) else none) = some true
  rw [if_pos e1, if_pos e2]
  exact h4
end WR
set_option Elab.async false
set_option linter.all false
set_option maxRecDepth 100000
set_option maxHeartbeats 2000000
namespace WR
open PySem PySem.Spec PyProof.Rows L2 Evl

/-! ### place_of, also of what is no way -/
def spPlaceX (K : PySem.W.Frag) (C : Addr) : Sp := fun vs H Q E => ∃ v x d l inner, vs = [v, x] ∧ Dp K H v (webD l inner) ∧ Asc l inner ∧ Dp K H x d ∧ lenD d ≤ 1000 ∧
  (∀ k w to, d = kidsD (k :: w) → wayB l inner d = true → isWayL (kidsAt l inner) (k :: w) → (k :: w).getLast? = some to → ∀ H', Ex H H' → Q (.int (placeL (kidsAt l inner) to (k :: w))) H') ∧
  (wayB l inner d = false → ∀ dd H', Ex H H' → H' dd = none → E (.ref C) (some dd) (upd H' dd (.xd [(("value" : Str), x)])))
section
variable {P : Program} {w : World} {K : PySem.W.Frag} {mg : Str → Option Value} {base : Heap}
theorem ok_placeX {C fI f fJ fW fK : Addr} {fd fdJ fdW fdK : FuncData} (F : Fun K "place_of" "place_of" s_place_of f fd)
    (FJ : Fun K "is_way" "is_way" s_is_way fJ fdJ) (bI : Binds K fdJ ["web", "value"] []) (gI : mg "is_way" = some (.ref fJ))
    (FW : Fun K "ways_to" "ways_to" sWaysTo fW fdW) (bW : Binds K fdW ["web", "to"] []) (gW : mg "ways_to" = some (.ref fW))
    (FK : Fun K "children" "children" sKids fK fdK) (bK : Binds K fdK ["web", "kind"] []) (gK : mg "children" = some (.ref fK))
    (m3 : mg "len" = none) (m4 : mg "sum" = none) (m5 : mg "range" = none) (T : PySem.LowX.LowTxt K mg C fI)
    (GI : FnOk P w K mg base CX0 3 fJ fdJ ["web", "value"] (spIsWayX K))
    (GW : FnOk P w K mg base CX0 2 fW fdW ["web", "to"] (spWK K fun l inner to => .list (intDs (wayD l inner to))))
    (GK : FnOk P w K mg base CX0 1 fK fdK ["web", "kind"] (spWK K fun l inner k => kidsD (kidsAt l inner k))) :
    FnOk P w K mg base (L2.CX P w) 5 f fd ["web", "value"] (spPlaceX K C) := by
  refine F.okX scPl (fun vs H Q E h => ?_) (fun cdv A outer s H vs Q E hr h => ?_)
  · obtain ⟨v, x, d, l, inner, rfl, _⟩ := h
    rfl
  obtain ⟨v, x, d, l, inner, rfl, hv, A', hx, hdl, hq, hE⟩ := h
  have r3 := hr.mono (show 3 ≤ 4 by decide)
  refine ⟨_, pss_cons (ps_if (pt_not (pt_val (pe_call GI r3 (by rfl) gI FJ.kp bI .nil pass0 (pa_cons (pv 0) (pa_cons (pv 1) pa_nil))))) (pss_one (ps_raiseLow rfl T hr (takes_of rfl rfl rfl rfl) (pa_cons (pv 1) pa_nil))) pss_nil)
    (PSs.nox (pss_cons (ps_set (i := 2) scPl.nd rfl (.inr rfl) (pe_call GW (hr.mono (by decide)) (by rfl) gW FW.kp bW .nil pass0 (pa_cons (pv 0) (pa_cons (pe_ix (r := rIxT K) ix_tup (pv 1) (pe_un un_neg pe_int) (fun _ _ => rfl)) pa_nil))))
    (pss_cons (ps_setLc2 (i := 3) (own := [("at", 4), ("child", 5)]) (vs1 := [5]) (g := gName 4) (g1 := gName 5) (tt := tYes) (tt1 := tTest (tOp (rI0 fun i j => .bl (decide (i < j))) (tVar 5) (tOp (rIxT K) (tVar 1) (tOp (rI0 fun i j => .int (i + j)) (tVar 4) (tC (.int 1))))))
      (wi1 := iTup K (tCall (spWK K fun l inner k => kidsD (kidsAt l inner k)) [] E0 (tCons (tVar 0) (tCons (tOp (rIxT K) (tVar 1) (tVar 4)) tNil)))) (te := tOp (rIxL K) (tVar 2) (tVar 5)) rfl scPl.nd rfl rfl (sw_true rfl rfl rfl (by decide +kernel))
      (pi_range1 (by rfl) m5 (pa_cons (pe_op op_sub (pe_callB call_len_seq (by rfl) m3 PySem.boot_len (pa_cons (pv 1) pa_nil)) pe_int) pa_nil)) (blkOk_by (N := nPl) (sc := defScope s_place_of) (by decide +kernel)) (by decide)
      (fun _ _ _ _ _ => pg_name (i := 4) scPl.nd rfl (Or.inl rfl)) (fun _ _ _ _ _ => pts_nil)
      (fun _ _ _ _ _ => pi_tup (pe_call GK (hr.mono (by decide)) (by rfl) gK FK.kp bK .nil pass0 (pa_cons (pv 0) (pa_cons (pe_ix (r := rIxT K) ix_tup (pv 1) (pv 4) (fun _ _ => rfl)) pa_nil))))
      (fun _ _ _ _ _ => pg_name (i := 5) scPl.nd rfl (Or.inl rfl)) (fun _ _ _ _ _ => pts_one (pt_cmpR op_lt (pv 5) (pe_ix (r := rIxT K) ix_tup (pv 1) (pe_op op_add (pv 4) pe_int) (fun _ _ => rfl)) (nomark _))) (fun _ _ _ _ _ => pe_ix (r := rIxL K) ix_list (pv 2) (pv 5) (fun _ _ => rfl)))
    (pss_one (ps_ret (pe_callB (cr_sum rfl) (by rfl) m4 (by decide +kernel) (pa_cons (pv 3) pa_nil))))))), ?_⟩
  have hw := A'.raw
  have h8 := hw.l8
  have h20 := hw.n20
  have hd : ∀ u c, c ∈ kidsAt l inner u → c < u := fun u c h => (kidsAt_lt hw h).2
  let S (x2 x3 : Option V) : L2.St := [some v, some x, x2, x3, none, none]
  show tSeq (tIfS _ _ _) _ _ (S none none) H
  refine q_when (b := !wayB l inner d) (et_not (et_B fun H1 e1 Q1 q1 => ?_)) (fun z H1 e1 => ?_) fun z H1 e1 => ?_
  · exact ⟨v, rfl, x, rfl, v, x, d, l, inner, rfl, dp_ex e1 _ hv, hw, dp_ex e1 _ hx, hdl, fun H2 e2 => q1 H2 e2⟩
  · exact ⟨x, rfl, x, rfl, fun dd hdd => hE (by simpa using z) dd H1 e1 hdd⟩
  have hyes : wayB l inner d = true := by simpa using z
  obtain ⟨k, w, rfl, hI, hk⟩ : ∃ k w, d = kidsD (k :: w) ∧ isWayL (kidsAt l inner) (k :: w) ∧ k < l + inner.length := by
    cases d with
    | tuple ds =>
      have hy : (!ds.isEmpty && (kindsB l inner ds && linkB (kidsAt l inner) (ds.map numI))) = true := hyes
      rw [Bool.and_eq_true, Bool.and_eq_true] at hy
      obtain ⟨e, hlt⟩ := kinds_nat hw.l1 hy.2.1
      cases ds with
      | nil => cases hy.1
      | cons a r =>
        refine ⟨numI a, r.map numI, congrArg PyData.tuple e, ?_, hlt _ (List.mem_cons_self ..)⟩
        exact (linkB_iff (by simp)).mp hy.2.2
    | _ => cases hyes
  obtain ⟨to, hto⟩ : ∃ to, (k :: w).getLast? = some to := ⟨_, List.getLast?_eq_some_getLast (by simp)⟩
  have q : ∀ H', Ex H H' → _ := hq k w to rfl hyes hI hto
  obtain ⟨hle, hlen⟩ := isWay_le hd hI
  have hkd : kidsD (k :: w) = .tuple (natDs (k :: w).dropLast ++ [natD to]) := by
    have hne : k :: w ≠ [] := by simp
    have e : (k :: w).getLast hne = to := by
      rw [List.getLast?_eq_some_getLast hne] at hto
      exact Option.some.inj hto
    show PyData.tuple (natDs (k :: w)) = _
    congr 1
    conv => lhs; rw [← List.dropLast_concat_getLast hne, e]
    unfold natDs
    rw [List.map_append]
    rfl
  have htol : to < l + inner.length := by
    have := hle to (List.mem_of_getLast? hto)
    omega
  show tSeq _ _ _ (S none none) H1
  have hx1 := dp_ex e1 _ hx
  refine q_asgD (K := K) (d := .list (intDs (wayD l inner to))) (ed_callWK (g := fun l inner to => .list (intDs (wayD l inner to))) (k := to) (ed_var rfl (dp_ex e1 _ hv)) (ed_last (ds := natDs (k :: w).dropLast) (by rw [← hkd]; exact ed_var rfl hx1)) hw htol) fun vc H2 e2 hc => ?_
  show tSeq _ _ _ (S (some vc) none) H2
  have e02 := e1.trans e2
  obtain ⟨W, eW⟩ : ∃ W, W = k :: w := ⟨_, rfl⟩
  have hWl : W.length = w.length + 1 := by rw [eW]; rfl
  have hflat := listA_flat (kf := kidsAt l inner) (f := way (kidsAt l inner) to) w k
  have hsum := listA_sum (kf := kidsAt l inner) (to := to) (k :: w)
  rw [← eW] at hx hI hle hlen hflat hsum q
  have hW0 : ∀ c, c < W.length → W[c]? = some (W.getD c 0) := fun c hc => by rw [List.getD_eq_getElem?_getD, List.getElem?_eq_getElem hc]; rfl
  have hWd : ∀ c, c < W.length → (natDs W)[c]? = some (natD (W.getD c 0)) := fun c hc => by
    unfold natDs
    rw [List.getElem?_map, hW0 c hc]
    rfl
  refine q_asgD (K := K) (d := .list ((listA (kidsAt l inner) (way (kidsAt l inner) to) W).map PyData.int)) (ed_n ?_) fun va H3 e3 ha => ?_
  · rw [← hflat]
    refine en_lc2 (K := K) (n := w.length) (fun i => kidsAt l inner (W.getD i 0)) (fun i c => decide (c < W.getD (i + 1) 0)) (fun _ c => .int (way (kidsAt l inner) to c)) (ea_cons (ev_is (ev_op (ed_lenT (K := K) (ds := natDs W) (ed_var rfl (dp_ex e02 _ hx))) ev_c rv_I0) ?_) ea_nil) (by omega) (fun _ => rfl) (fun _ _ => rfl) (fun i H3 e3 hi => ?_) (fun i hi => kl30 hw) (fun i c H3 e3 hi hc => ?_) (fun i c H3 e3 hi hc' hb => ?_) fun _ _ => rfl
    · show V.int _ = V.int _
      congr 1
      unfold natDs
      rw [List.length_map, hWl]
      omega
    · have := hle _ (List.mem_of_getElem? (hW0 i (by omega)))
      exact ed_callWK (g := fun l inner k => kidsD (kidsAt l inner k)) (k := W.getD i 0) (ed_var rfl (dp_ex (e02.trans e3) _ hv)) (ed_ixT (n := i) (ds := natDs W) (ed_var rfl (dp_ex (e02.trans e3) _ hx)) (ed_i (ev_var rfl)) rfl (hWd i (by omega))) hw (by omega)
    · refine et_test (ev_is (ev_op (ev_var rfl) (ev_i (K := K) (ed_ixT (n := i + 1) (ds := natDs W) (ed_var rfl (dp_ex (e02.trans e3) _ hx)) (ed_i (ev_op (ev_var rfl) ev_c rv_I0)) rfl (hWd (i + 1) (by omega)))) rv_I0) ?_)
      show V.bl _ = V.bl _
      congr 1
      exact decide_eq_decide.mpr (by omega)
    · have hcl := (kidsAt_lt hw hc').1
      exact ed_ixL (n := c) (ds := intDs (wayD l inner to)) (ed_var rfl (dp_ex e3 _ hc)) (ed_i (ev_var rfl)) rfl (wayD_at hcl)
  · refine s_ret (v := .int (placeL (kidsAt l inner) to W)) ?_ fun H4 e4 => q H4 ((e02.trans e3).trans e4)
    rw [← hsum]
    obtain ⟨pa, xs, rfl, hs, hda⟩ := dp_lst ha
    rw [ints_of hda] at hs
    exact fun H4 e4 Q4 q4 => ⟨.ref pa, rfl, pa, _, rfl, ex_l e4 hs, q4 H4 (Ex.refl _)⟩
end
end WR
set_option Elab.async false
set_option linter.all false
set_option maxRecDepth 100000
set_option maxHeartbeats 2000000
namespace WR
open PySem PySem.Spec PyProof.Rows L2 Evl

/-! ### _law_told: place_of's answer, or what its error holds -/
def placeD (l : Nat) (inner : List (List Nat)) (d : PyData) : PyData := if wayB l inner d = true then match d with
  | .tuple ds => .int (placeL (kidsAt l inner) ((ds.map numI).getLastD 0) (ds.map numI))
  | _ => .none
  else .list [d]
theorem numI_nat (W : List Nat) : (natDs W).map numI = W := by
  unfold natDs
  rw [List.map_map]
  exact List.map_id'' (fun c => Int.toNat_natCast c) W
theorem placeD_way {l : Nat} {inner : List (List Nat)} {k to : Nat} {w : List Nat} (h : wayB l inner (kidsD (k :: w)) = true) (ht : (k :: w).getLast? = some to) : placeD l inner (kidsD (k :: w)) = .int (placeL (kidsAt l inner) to (k :: w)) := by
  unfold placeD
  rw [if_pos h]
  show PyData.int (placeL (kidsAt l inner) (((natDs (k :: w)).map numI).getLastD 0) ((natDs (k :: w)).map numI)) = _
  rw [numI_nat, List.getLastD_eq_getLast?, ht]
  rfl
def spTold2 (K : PySem.W.Frag) : Sp := fun vs H Q _ => ∃ v x d l inner, vs = [v, x] ∧ Dp K H v (webD l inner) ∧ Asc l inner ∧ Dp K H x d ∧ lenD d ≤ 1000 ∧ ∀ r H', Ex H H' → Dp K H' r (placeD l inner d) → Q r H'
abbrev nTo2 : List Str := ["_law_web_here", "_law_value", "e"]
theorem scTo2 : FnScope nTo2 ["_law_web_here", "_law_value"] (defScope s_law_told) := ⟨rfl, rfl, rfl, by decide +kernel, rfl, by decide +kernel, by decide +kernel⟩
section
variable {P : Program} {w : World} {K : PySem.W.Frag} {mg : Str → Option Value} {base : Heap}
theorem ok_told2 {C fI f fA : Addr} {fd fdA : FuncData} (F : Fun K "_law_told" "_law_told" s_law_told f fd)
    (FA : Fun K "place_of" "place_of" s_place_of fA fdA) (bA : Binds K fdA ["web", "value"] []) (gA : mg "place_of" = some (.ref fA))
    (T : PySem.LowX.LowTxt K mg C fI)
    (GA : FnOk P w K mg base (L2.CX P w) 5 fA fdA ["web", "value"] (spPlaceX K C)) :
    FnOk P w K mg base CX0 6 f fd ["_law_web_here", "_law_value"] (spTold2 K) := by
  refine F.ok scTo2 (fun vs H Q E h => ?_) (fun cdv A outer s H vs Q E hr h => ?_)
  · obtain ⟨v, x, d, l, inner, rfl, _⟩ := h
    rfl
  obtain ⟨v, x, d, l, inner, rfl, hv, A', hxd, hdl, q⟩ := h
  let tS : Addr → Value → Option Addr → TS := fun a cls d => tRet (tLst (tCons (tByLow C a cls d (tVar 2)) tNil))
  refine ⟨_, pss_one (ps_try_as (i := 2) (tb := fun W => tRet (tCallS (spPlaceX K C) (WE W) (tCons (tVar 0) (tCons (tVar 1) tNil)))) (ts := tS) (Wout := fun _ _ _ _ => False) rfl rfl scTo2.nd rfl rfl ⟨rfl, by decide, Or.inl T.gC⟩ takes0
      (fun W pn xe tk _ => pss_one (ps_ret (by exact (pe_callS GA hr rfl gA FA.kp bA (fun σ => passAt tk σ) (by exact (pa_cons (pv 0) (pa_cons (pv 1) pa_nil)))))))
      (fun a oe cls d pn hz hf => pss_one (ps_ret (by exact (pe_lst (pa_cons (pe_byLow T hz hf (pv 2)) pa_nil)))))), ?_⟩
  refine ⟨v, rfl, x, rfl, v, x, d, l, inner, rfl, hv, A', hxd, hdl, fun k w to ed hy hI hto H' e => ?_, fun hb dd H' e hdd => ?_⟩
  · subst ed
    refine q _ H' e ?_
    rw [placeD_way hy hto]
    exact .int _
  · refine ⟨true, T.te, fun _ a0 ha0 => ?_, fun z => Bool.noConfusion z⟩
    have en := Ex.new (o := .xd [(("value" : Str), x)]) hdd
    refine ⟨_, rfl, rfl, rfl, dd, x, rfl, upd_same, by show 1 ≤ sizeLine; decide, fun p hp => ?_⟩
    have en2 := Ex.new (o := .lst [x]) hp
    refine q _ _ ((e.trans en).trans en2) ?_
    unfold placeD
    rw [if_neg (by rw [hb]; decide)]
    exact .lst (sq_of upd_same) (.cons (dp_ex ((e.trans en).trans en2) _ hxd) .nil)
end
end WR
set_option Elab.async false
set_option linter.all false
set_option maxRecDepth 100000
set_option maxHeartbeats 1000000
namespace WR
open PySem PySem.Spec PyProof.Rows L2 Evl

/-! ### the law's walks: the mathematics -/
def totL (kf : Nat → List Nat) : Nat → List Nat
  | 0 => []
  | n + 1 => totL kf n ++ [((kf n).map fun c => (totL kf n).getD c 0).sum + 1]
def tot (kf : Nat → List Nat) (k : Nat) : Nat := (totL kf (k + 1)).getD k 0
theorem totL_len {kf : Nat → List Nat} : ∀ n, (totL kf n).length = n
  | 0 => rfl
  | n + 1 => by
    show (totL kf n ++ [_]).length = _
    rw [List.length_append, totL_len n]
    rfl
theorem totL_at {kf : Nat → List Nat} {k : Nat} : ∀ {n : Nat}, k < n → (totL kf n).getD k 0 = tot kf k
  | n + 1, h => by
    by_cases e : k = n
    · subst e
      rfl
    · show (totL kf n ++ [_]).getD k 0 = _
      rw [List.getD_eq_getElem?_getD, List.getElem?_append_left (by rw [totL_len]; omega), ← List.getD_eq_getElem?_getD]
      exact totL_at (by omega)
theorem tot_rec {kf : Nat → List Nat} {k : Nat} (h : ∀ c ∈ kf k, c < k) : tot kf k = ((kf k).map (tot kf)).sum + 1 := by
  unfold tot
  show (totL kf k ++ [_]).getD k 0 = _
  rw [List.getD_eq_getElem?_getD, List.getElem?_append_right (by rw [totL_len]; exact Nat.le_refl _), totL_len, Nat.sub_self]
  show ((kf k).map fun c => (totL kf k).getD c 0).sum + 1 = _
  congr 2
  exact List.map_congr_left fun c hc => totL_at (h c hc)
/-- the stack: groups of at most 30, each below a bound that falls -/
inductive Stk (n : Nat) : Nat → List Nat → Prop
  | nil : Stk n n []
  | grp {b b' : Nat} {rest g : List Nat} (h : Stk n b' rest) (hb : b < b') (hl : g.length ≤ 30) (hg : ∀ x ∈ g, x < b) : Stk n b (rest ++ g)
theorem Stk.le {n b : Nat} {left : List Nat} (h : Stk n b left) : b ≤ n := by
  induction h with
  | nil => exact Nat.le_refl _
  | grp _ hb _ _ ih => omega
theorem Stk.len {n b : Nat} {left : List Nat} (h : Stk n b left) : left.length ≤ 30 * (n - b) := by
  induction h with
  | nil => exact Nat.zero_le _
  | grp h hb hl _ ih =>
    rw [List.length_append]
    have := h.le
    omega
theorem Stk.pop {n b : Nat} {left l : List Nat} {x : Nat} (h : Stk n b left) (e : left = l ++ [x]) : ∃ b', x < b' ∧ Stk n b' l := by
  induction h generalizing l x with
  | nil => exact absurd e (by simp)
  | grp h hb hl hg ih =>
    rename_i b b' rest g
    rcases List.eq_nil_or_concat g with rfl | ⟨g', y, rfl⟩
    · rw [List.append_nil] at e
      exact ih e
    · rw [List.concat_eq_append, ← List.append_assoc] at e
      obtain ⟨e1, e2⟩ := List.append_inj' e rfl
      have e2 : y = x := by simpa using e2
      subst e2
      subst e1
      refine ⟨b, hg y (by simp), .grp h hb ?_ fun z hz => hg z (by simp [hz])⟩
      rw [List.concat_eq_append, List.length_append] at hl
      omega
structure Wk (kf : Nat → List Nat) (n k : Nat) (fs : List Int) (left : List Nat) : Prop where
  len : fs.length = n
  bal : ∀ x, x < n → fs.getD x 0 + (left.map (way kf x)).sum = way kf x k
  lt : ∀ y ∈ left, y < n
  stk : ∃ b, Stk (n + 1) b left
theorem Wk.step {kf : Nat → List Nat} {n k y : Nat} {fs : List Int} {l : List Nat} (hd : ∀ u c, c ∈ kf u → c < u) (hl : ∀ u, (kf u).length ≤ 30) (w : Wk kf n k fs (l ++ [y])) : Wk kf n k (bump fs y) (l ++ kf y) := by
  have hy : y < n := w.lt y (by simp)
  refine ⟨by rw [bump_len]; exact w.len, fun x hx => ?_, fun z hz => ?_, ?_⟩
  · have := w.bal x hx
    rw [List.map_append, List.sum_append] at this ⊢
    rw [bump_at (by rw [w.len]; exact hx)]
    have h2 := way_rec (to := x) (fun c hc => hd y c hc)
    have h3 : ([y].map (way kf x)).sum = way kf x y := by simp
    rw [h3, h2] at this
    omega
  · rcases List.mem_append.mp hz with h | h
    · exact w.lt z (List.mem_append_left _ h)
    · have := hd y z h
      omega
  · obtain ⟨b, hb⟩ := w.stk
    obtain ⟨b', h1, h2⟩ := hb.pop rfl
    exact ⟨y, .grp h2 h1 (hl y) fun z hz => hd y z hz⟩
theorem Wk.fall {kf : Nat → List Nat} {y : Nat} {l : List Nat} (hd : ∀ u c, c ∈ kf u → c < u) : ((l ++ kf y).map (tot kf)).sum < ((l ++ [y]).map (tot kf)).sum := by
  rw [List.map_append, List.sum_append, List.map_append, List.sum_append]
  have h2 := tot_rec (fun c hc => hd y c hc)
  have h3 : ([y].map (tot kf)).sum = tot kf y := by simp
  omega
theorem Wk.start {kf : Nat → List Nat} {n k : Nat} (hk : k < n) : Wk kf n k (List.replicate n 0) [k] := by
  refine ⟨List.length_replicate, fun x hx => ?_, fun y hy => by rw [List.mem_singleton.mp hy]; exact hk, n, ?_⟩
  · rw [List.getD_eq_getElem?_getD, List.getElem?_replicate, if_pos hx]
    simp
  · exact .grp (rest := []) .nil (Nat.lt_succ_self n) (by simp) (fun x hx => by rw [List.mem_singleton.mp hx]; exact hk)
theorem Wk.done {kf : Nat → List Nat} {n k : Nat} {fs : List Int} (w : Wk kf n k fs []) : fs = (List.range n).map fun x => way kf x k := by
  refine List.ext_getElem? fun x => ?_
  by_cases z : x < n
  · have := w.bal x z
    rw [List.map_nil, List.sum_nil, Int.add_zero, List.getD_eq_getElem?_getD, List.getElem?_eq_getElem (by rw [w.len]; exact z)] at this
    rw [List.getElem?_map, List.getElem?_range z, List.getElem?_eq_getElem (by rw [w.len]; exact z)]
    exact congrArg some this
  · rw [List.getElem?_eq_none (by rw [w.len]; omega), List.getElem?_eq_none (by rw [List.length_map, List.length_range]; omega)]
theorem q_par2 {σ : L2.St} {H : Hp} {D : Ends} {tz : TS} {i j : Nat} {r : R2} {ta tb tc : TE} (h : ta σ H fun x H1 => tb σ H1 fun y H2 => r x y H2 fun v H3 => tc σ H3 fun w H4 => ∃ v' w', [v, w] = [v', w'] ∧ tz D ((σ.set i (some v')).set j (some w')) H4) : tSeq (tPar i j (tCons (tOp r ta tb) (tCons tc tNil))) tz D σ H := h
def spWalks (K : PySem.W.Frag) : Sp := fun vs H Q _ => ∃ p rs l inner k, vs = [.ref p, nV k] ∧ KdAt H p rs (kkOf l inner) ∧ Raw l inner ∧ k < l + inner.length ∧
  ∀ r H', Ex H H' → Dp K H' (.ref r) (.list (((List.range (l + inner.length)).map fun x => way (kidsAt l inner) x k).map PyData.int)) → Q (.ref r) H'
end WR
set_option Elab.async false
set_option linter.all false
set_option maxRecDepth 100000
set_option maxHeartbeats 1000000
namespace WR
open PySem PySem.Spec PyProof.Rows L2 Evl

/-! ### _law_without -/
/-- reached from the root without g -/
def RchG (kk : List (List Nat)) (g x : Nat) : Prop := ∀ T : Nat → Prop, (∀ r, r + 1 = kk.length → r ≠ g → T r) → (∀ u c, T u → c ∈ rowAt kk u → c ≠ g → T c) → T x
structure Wo (kk : List (List Nat)) (g : Nat) (S : List Nat) : Prop where
  lt : ∀ x ∈ S, x < kk.length
  iff : ∀ x, x ∈ S ↔ RchG kk g x
def spWithout (K : PySem.W.Frag) : Sp := fun vs H Q _ => ∃ p rs kk k, vs = [.ref p, nV k] ∧ KdAt H p rs kk ∧ Sml kk ∧ 0 < kk.length ∧ (∀ ks ∈ kk, ∀ c ∈ ks, c < kk.length) ∧
  ∀ d H' S, Wo kk k S → H d = none → Ex H H' → H' d = some (.dK (dKs S)) → Q (.ref d) H'
end WR
set_option Elab.async false
set_option linter.all false
set_option maxRecDepth 100000
set_option maxHeartbeats 1000000
namespace WR
open PySem PySem.Spec PyProof.Rows L2 Evl

/-! ### ways by a kind, ways round it -/
def avoid (kf : Nat → List Nat) (g : Nat) : Nat → List Nat := fun u => (kf u).filter fun c => decide (c ≠ g)
theorem way_up {kf : Nat → List Nat} (hd : ∀ u c, c ∈ kf u → c < u) {to k : Nat} (h : k < to) : way kf to k = 0 := by
  induction k using Nat.strongRecOn with
  | ind k ih =>
    rw [way_rec (hd k), if_neg (by omega), Int.add_zero]
    have : (kf k).map (way kf to) = (kf k).map fun _ => 0 := List.map_congr_left fun c hc => ih c (hd k c hc) (by have := hd k c hc; omega)
    rw [this]
    generalize kf k = l
    induction l with
    | nil => rfl
    | cons _ _ ih => rw [List.map_cons, List.sum_cons, ih]; rfl
theorem way_one {kf : Nat → List Nat} (hd : ∀ u c, c ∈ kf u → c < u) {k : Nat} : way kf k k = 1 := by
  rw [way_rec (hd k), if_pos rfl]
  have : (kf k).map (way kf k) = (kf k).map fun _ => 0 := List.map_congr_left fun c hc => way_up hd (hd k c hc)
  rw [this]
  have e : ∀ l : List Nat, (l.map fun _ => (0 : Int)).sum = 0 := fun l => by
    induction l with
    | nil => rfl
    | cons _ _ ih => rw [List.map_cons, List.sum_cons, ih]; rfl
  rw [e]
  rfl
theorem avoid_lt {kf : Nat → List Nat} (hd : ∀ u c, c ∈ kf u → c < u) (g : Nat) : ∀ u c, c ∈ avoid kf g u → c < u := fun u c h => hd u c (List.mem_filter.mp h).1
theorem split_sum {kf : Nat → List Nat} {g to : Nat} {C : Int} {A B D : Nat → Int} (hg : A g = C) (hB : B g = 1) : ∀ {l : List Nat}, (∀ c ∈ l, c ≠ g → A c = B c * C + D c) → (l.map A).sum = (l.map B).sum * C + ((l.filter fun c => decide (c ≠ g)).map D).sum
  | [], _ => by simp
  | c :: r, h => by
    have ih := split_sum (kf := kf) (to := to) hg hB (l := r) fun x hx => h x (List.mem_cons_of_mem _ hx)
    rw [List.map_cons, List.sum_cons, List.map_cons, List.sum_cons, List.filter_cons, ih, Int.add_mul]
    by_cases z : c = g
    · rw [if_neg (by simp [z]), z, hg, hB, Int.one_mul]
      omega
    · rw [if_pos (by simp [z]), List.map_cons, List.sum_cons, h c (List.mem_cons_self ..) z]
      omega
theorem way_split {kf : Nat → List Nat} (hd : ∀ u c, c ∈ kf u → c < u) {g to : Nat} : ∀ {k : Nat}, k ≠ g → way kf to k = way kf g k * way kf to g + way (avoid kf g) to k := fun {k} => by
  induction k using Nat.strongRecOn with
  | ind k ih =>
    intro hk
    have h1 := split_sum (kf := kf) (to := to) (g := g) (C := way kf to g) (A := way kf to) (B := way kf g) (D := way (avoid kf g) to) rfl (way_one hd) (l := kf k) fun c hc hcg => ih c (hd k c hc) hcg
    rw [way_rec (hd k), way_rec (kf := avoid kf g) (avoid_lt hd g k), way_rec (kf := kf) (to := g) (hd k), if_neg hk, Int.add_zero, h1]
    have h2 : avoid kf g k = (kf k).filter fun c => decide (c ≠ g) := rfl
    rw [h2]
    omega
theorem rowAt_map {kk : List (List Nat)} {g : Nat} : rowAt (kk.map fun ks => ks.filter fun c => decide (c ≠ g)) = avoid (rowAt kk) g := by
  funext u
  unfold rowAt avoid
  show _ = (kk.getD u []).filter _
  rw [List.getD_eq_getElem?_getD, List.getElem?_map, List.getD_eq_getElem?_getD]
  cases kk[u]? <;> rfl
theorem avoid_rch {kk : List (List Nat)} (hd : ∀ u c, c ∈ rowAt kk u → c < u) {g r x : Nat} (hr : r + 1 = kk.length) (hg : r ≠ g) : 0 < way (avoid (rowAt kk) g) x r ↔ RchG kk g x := by
  have h1 := way_rch (kk := kk.map fun ks => ks.filter fun c => decide (c ≠ g)) (by rw [rowAt_map]; exact avoid_lt hd g) (to := x) r
  rw [rowAt_map] at h1
  rw [h1]
  unfold Rch
  rw [rowAt_map]
  constructor
  · intro h T hT hS
    exact h T (hT r hr hg) fun u c hu hc => by
      obtain ⟨a, b⟩ := List.mem_filter.mp hc
      exact hS u c hu a (of_decide_eq_true b)
  · intro h T hT hS
    exact h T (fun r' hr' _ => by rw [show r' = r by omega]; exact hT) fun u c hu hc hcg => hS u c hu (List.mem_filter.mpr ⟨hc, decide_eq_true hcg⟩)
def holdB (l : Nat) (inner : List (List Nat)) (g x : Nat) : Bool := decide (way (kidsAt l inner) g (topN l inner) * way (kidsAt l inner) x g = way (kidsAt l inner) x (topN l inner))
theorem hold_iff {l : Nat} {inner : List (List Nat)} (hw : Raw l inner) {g x : Nat} : holdB l inner g x = true ↔ ¬ RchG (kkOf l inner) g x := by
  have h1 := hw.l1
  have hd : ∀ u c, c ∈ kidsAt l inner u → c < u := fun u c h => (kidsAt_lt hw h).2
  have hdk : ∀ u c, c ∈ rowAt (kkOf l inner) u → c < u := by rw [rowAt_kkE]; exact hd
  have hr : topN l inner + 1 = (kkOf l inner).length := by
    rw [kkOf_len]
    unfold topN
    omega
  unfold holdB
  rw [decide_eq_true_iff]
  by_cases z : topN l inner = g
  · rw [z, way_one hd, Int.one_mul]
    refine ⟨fun _ h => ?_, fun _ => rfl⟩
    exact h (fun _ => False) (fun r' hr' hne => by
      have : r' = g := by omega
      exact hne this) fun _ _ h _ _ => h
  · have h2 := way_split hd (to := x) z
    have h3 := avoid_rch hdk (x := x) hr z
    rw [rowAt_kkE] at h3
    have h4 := way_nn (to := x) (avoid_lt hd g) (topN l inner)
    rw [← h3]
    constructor
    · intro h y
      omega
    · intro h
      omega
theorem way_bits {l : Nat} {inner : List (List Nat)} (hw : Raw l inner) {to k : Nat} (hk : k < l + inner.length) : (way (kidsAt l inner) to k).natAbs < 2 ^ 150 := by
  have h8 := hw.l8
  have h20 := hw.n20
  have hd : ∀ u c, c ∈ kidsAt l inner u → c < u := fun u c h => (kidsAt_lt hw h).2
  have h1 := way_nn (to := to) hd k
  have h2 := way_le (to := to) hd (B := 30) (fun u => kl30 hw) k
  have h3 : (30 + 1) ^ k ≤ (30 + 1) ^ 28 := Nat.pow_le_pow_right (by decide) (by omega)
  have h4 : (30 + 1) ^ 28 < 2 ^ 150 := by decide
  generalize (30 + 1) ^ k = a at h2 h3
  generalize (30 + 1) ^ 28 = b at h3 h4
  generalize 2 ^ 150 = c at h4 ⊢
  omega
end WR
set_option Elab.async false
set_option linter.all false
set_option maxRecDepth 100000
set_option maxHeartbeats 1000000
namespace WR
open PySem PySem.Spec PyProof.Rows L2 Evl

/-! ### ways by a kind, counted one by one: the mathematics -/
def valW (kf : Nat → List Nat) (x : Nat) (W : List Nat) (g : Nat) : Int := if g ∈ W then way kf x (W.getLastD 0) else way kf g (W.getLastD 0) * way kf x g
theorem lastD_snoc {W : List Nat} {c : Nat} : (W ++ [c]).getLastD 0 = c := by
  rw [List.getLastD_eq_getLast?, List.getLast?_append]
  rfl
theorem lastD_mem {W : List Nat} (h : W ≠ []) : W.getLastD 0 ∈ W := by
  rw [List.getLastD_eq_getLast?, List.getLast?_eq_some_getLast h]
  exact List.getLast_mem h
theorem sum_mulR {f : Nat → Int} {C : Int} : ∀ ks : List Nat, (ks.map fun c => f c * C).sum = (ks.map f).sum * C
  | [] => by simp
  | k :: r => by
    rw [List.map_cons, List.sum_cons, List.map_cons, List.sum_cons, sum_mulR r, Int.add_mul]
structure WOk (n : Nat) (W : List Nat) : Prop where
  ne : W ≠ []
  nd : W.Nodup
  lt : ∀ c ∈ W, c < n
  le : ∀ c ∈ W, W.getLastD 0 ≤ c
theorem WOk.len {n : Nat} {W : List Nat} (h : WOk n W) : W.length ≤ n := nodup_len n W h.nd h.lt
theorem WOk.snoc {n : Nat} {W : List Nat} {c : Nat} (h : WOk n W) (hc : c < W.getLastD 0) : WOk n (W ++ [c]) := by
  refine ⟨by simp, ?_, fun a ha => ?_, fun a ha => ?_⟩
  · rw [List.nodup_append]
    refine ⟨h.nd, (by simp), fun a ha b hb z => ?_⟩
    rw [List.mem_singleton.mp hb] at z
    have := h.le a ha
    omega
  · rcases List.mem_append.mp ha with ha | ha
    · exact h.lt a ha
    · rw [List.mem_singleton.mp ha]
      have := h.lt _ (lastD_mem h.ne)
      omega
  · rw [lastD_snoc]
    rcases List.mem_append.mp ha with ha | ha
    · have := h.le a ha
      omega
    · rw [List.mem_singleton.mp ha]
      exact Nat.le_refl _
theorem valW_step {kf : Nat → List Nat} (hd : ∀ u c, c ∈ kf u → c < u) {x : Nat} {W : List Nat} {g : Nat} (h : W ≠ []) :
    valW kf x W g = (if W.getLastD 0 = x ∧ g ∈ W then 1 else 0) + ((kf (W.getLastD 0)).map fun c => valW kf x (W ++ [c]) g).sum := by
  obtain ⟨u, hu⟩ : ∃ u, u = W.getLastD 0 := ⟨_, rfl⟩
  rw [← hu]
  unfold valW
  rw [← hu]
  by_cases z : g ∈ W
  · rw [if_pos z, way_rec (hd u)]
    have e : ((kf u).map fun c => if g ∈ W ++ [c] then way kf x ((W ++ [c]).getLastD 0) else way kf g ((W ++ [c]).getLastD 0) * way kf x g) = (kf u).map (way kf x) := List.map_congr_left fun c _ => by
      rw [if_pos (List.mem_append_left _ z), lastD_snoc]
    rw [e]
    by_cases y : u = x
    · rw [if_pos y, if_pos ⟨y, z⟩]
      omega
    · rw [if_neg y, if_neg fun w => y w.1]
      omega
  · have hgu : u ≠ g := fun y => z (y ▸ hu ▸ lastD_mem h)
    rw [if_neg z, if_neg fun w => z w.2, Int.zero_add, way_rec (hd u), if_neg hgu, Int.add_zero, ← sum_mulR]
    congr 1
    refine List.map_congr_left fun c _ => ?_
    rw [lastD_snoc]
    by_cases y : g = c
    · subst y
      rw [if_pos (by simp), way_one hd, Int.one_mul]
    · rw [if_neg (by simp [z, y])]
structure Ht (kf : Nat → List Nat) (n r x : Nat) (fs : List Int) (e : Int) (ws : List (List Nat)) : Prop where
  len : fs.length = n
  bal : ∀ g, g < n → fs.getD g 0 + (ws.map fun W => valW kf x W g).sum = way kf g r * way kf x g
  all : e + (ws.map fun W => way kf x (W.getLastD 0)).sum = way kf x r
  ok : ∀ W ∈ ws, WOk n W
  stk : ∃ b, Stk (n + 1) b (ws.map fun W => W.getLastD 0)
def bumpIf (fs : List Int) (W : List Nat) (b : Bool) : List Int := if b = true then bumpAll fs W else fs
theorem Ht.step {kf : Nat → List Nat} {n r x : Nat} {fs : List Int} {e : Int} {ws : List (List Nat)} {W : List Nat} (hd : ∀ u c, c ∈ kf u → c < u) (hl : ∀ u, (kf u).length ≤ 30) (h : Ht kf n r x fs e (ws ++ [W])) :
    Ht kf n r x (bumpIf fs W (decide (W.getLastD 0 = x))) (e + if W.getLastD 0 = x then 1 else 0) (ws ++ (kf (W.getLastD 0)).map fun c => W ++ [c]) := by
  have hW := h.ok W (by simp)
  have hlen : (bumpIf fs W (decide (W.getLastD 0 = x))).length = n := by
    unfold bumpIf
    split
    · rw [bumpAll_len]
      exact h.len
    · exact h.len
  refine ⟨hlen, fun g hg => ?_, ?_, fun V hV => ?_, ?_⟩
  · have hb := h.bal g hg
    rw [List.map_append, List.sum_append] at hb ⊢
    have h1 : (([W] : List (List Nat)).map fun W => valW kf x W g).sum = valW kf x W g := by simp
    rw [h1, valW_step hd hW.ne] at hb
    rw [List.map_map]
    have e2 : ((fun W => valW kf x W g) ∘ fun c => W ++ [c]) = fun c => valW kf x (W ++ [c]) g := rfl
    rw [e2]
    unfold bumpIf
    by_cases z : W.getLastD 0 = x
    · rw [if_pos (decide_eq_true z), bumpAll_at hW.nd (by rw [h.len]; exact hg)]
      by_cases y : g ∈ W
      · rw [if_pos ⟨z, y⟩] at hb
        rw [if_pos y]
        omega
      · rw [if_neg fun w => y w.2] at hb
        rw [if_neg y]
        omega
    · rw [if_neg (by simpa using z)]
      rw [if_neg fun w => z w.1] at hb
      omega
  · have hb := h.all
    rw [List.map_append, List.sum_append] at hb ⊢
    have h1 : (([W] : List (List Nat)).map fun W => way kf x (W.getLastD 0)).sum = way kf x (W.getLastD 0) := by simp
    rw [h1, way_rec (hd _)] at hb
    rw [List.map_map]
    have e2 : ((kf (W.getLastD 0)).map ((fun W => way kf x (W.getLastD 0)) ∘ fun c => W ++ [c])) = (kf (W.getLastD 0)).map (way kf x) := List.map_congr_left fun c _ => by
      show way kf x ((W ++ [c]).getLastD 0) = _
      rw [lastD_snoc]
    rw [e2]
    omega
  · rcases List.mem_append.mp hV with hV | hV
    · exact h.ok V (List.mem_append_left _ hV)
    · obtain ⟨c, hc, rfl⟩ := List.mem_map.mp hV
      exact hW.snoc (hd _ c hc)
  · obtain ⟨b, hb⟩ := h.stk
    rw [List.map_append] at hb
    obtain ⟨b', h1, h2⟩ := hb.pop (x := W.getLastD 0) (l := ws.map fun W => W.getLastD 0) rfl
    refine ⟨W.getLastD 0, ?_⟩
    rw [List.map_append]
    have e2 : (((kf (W.getLastD 0)).map fun c => W ++ [c]).map fun W => W.getLastD 0) = kf (W.getLastD 0) := by
      rw [List.map_map]
      conv => rhs; rw [← List.map_id (kf (W.getLastD 0))]
      exact List.map_congr_left fun c _ => lastD_snoc
    rw [e2]
    exact .grp h2 h1 (hl _) fun z hz => hd _ z hz
theorem Ht.fall {kf : Nat → List Nat} {ws : List (List Nat)} {W : List Nat} (hd : ∀ u c, c ∈ kf u → c < u) : ((ws ++ (kf (W.getLastD 0)).map fun c => W ++ [c]).map fun W => tot kf (W.getLastD 0)).sum < ((ws ++ [W]).map fun W => tot kf (W.getLastD 0)).sum := by
  rw [List.map_append, List.sum_append, List.map_append, List.sum_append, List.map_map]
  have h2 := tot_rec (kf := kf) (fun c hc => hd (W.getLastD 0) c hc)
  have h3 : (([W] : List (List Nat)).map fun W => tot kf (W.getLastD 0)).sum = tot kf (W.getLastD 0) := by simp
  have e2 : ((kf (W.getLastD 0)).map ((fun W => tot kf (W.getLastD 0)) ∘ fun c => W ++ [c])) = (kf (W.getLastD 0)).map (tot kf) := List.map_congr_left fun c _ => by
    show tot kf ((W ++ [c]).getLastD 0) = _
    rw [lastD_snoc]
  rw [e2]
  omega
theorem Ht.start {kf : Nat → List Nat} (hd : ∀ u c, c ∈ kf u → c < u) {n r x : Nat} (hr : r < n) : Ht kf n r x (List.replicate n 0) 0 [[r]] := by
  refine ⟨List.length_replicate, fun g hg => ?_, ?_, fun W hW => ?_, n, ?_⟩
  · rw [List.getD_eq_getElem?_getD, List.getElem?_replicate, if_pos hg]
    have e : (([[r]] : List (List Nat)).map fun W => valW kf x W g).sum = valW kf x [r] g := by simp
    rw [e]
    unfold valW
    show (0 : Int) + (if g ∈ [r] then way kf x r else way kf g r * way kf x g) = _
    by_cases z : g = r
    · subst z
      rw [if_pos (by simp), way_one hd]
      omega
    · rw [if_neg (by simpa using z)]
      omega
  · show (0 : Int) + (way kf x r + 0) = way kf x r
    omega
  · rw [List.mem_singleton.mp hW]
    refine ⟨by simp, (by simp), fun c hc => by rw [List.mem_singleton.mp hc]; exact hr, fun c hc => ?_⟩
    rw [List.mem_singleton.mp hc]
    exact Nat.le_refl r
  · exact .grp (rest := []) .nil (Nat.lt_succ_self n) (by simp) (fun y hy => by rw [List.mem_singleton.mp hy]; exact hr)
theorem Ht.done {kf : Nat → List Nat} {n r x : Nat} {fs : List Int} {e : Int} (h : Ht kf n r x fs e []) : fs = ((List.range n).map fun g => way kf g r * way kf x g) ∧ e = way kf x r := by
  refine ⟨List.ext_getElem? fun g => ?_, by have := h.all; simpa using this⟩
  by_cases z : g < n
  · have := h.bal g z
    rw [List.map_nil, List.sum_nil, Int.add_zero, List.getD_eq_getElem?_getD, List.getElem?_eq_getElem (by rw [h.len]; exact z)] at this
    rw [List.getElem?_map, List.getElem?_range z, List.getElem?_eq_getElem (by rw [h.len]; exact z)]
    exact congrArg some this
  · rw [List.getElem?_eq_none (by rw [h.len]; omega), List.getElem?_eq_none (by rw [List.length_map, List.length_range]; omega)]
end WR
set_option Elab.async false
set_option linter.all false
set_option maxRecDepth 100000
set_option maxHeartbeats 1000000
namespace WR
open PySem PySem.Spec PyProof.Rows L2 Evl

/-! ### tuples of integers by order -/
theorem lex_self : ∀ a : List Int, HT.lexLt a a = false
  | [] => rfl
  | x :: a => by rw [HT.lexLt_cons, if_pos rfl, lex_self a]
theorem lex_asymm : ∀ {a b : List Int}, HT.lexLt a b = true → HT.lexLt b a = false
  | [], [], h => rfl
  | [], _ :: _, _ => rfl
  | _ :: _, [], h => by cases h
  | x :: a, y :: b, h => by
    rw [HT.lexLt_cons] at h ⊢
    by_cases z : x = y
    · rw [if_pos z] at h
      rw [if_pos z.symm]
      exact lex_asymm h
    · rw [if_neg z] at h
      rw [if_neg (Ne.symm z)]
      have := of_decide_eq_true h
      exact decide_eq_false (by omega)
theorem lex_lt : ∀ a b : List Int, HT.lexLt a b = decide (a < b)
  | [], [] => by simp [HT.lexLt]
  | [], _ :: _ => by simp [HT.lexLt]
  | _ :: _, [] => by simp [HT.lexLt]
  | x :: a, y :: b => by
    rw [HT.lexLt_cons, lex_lt a b]
    by_cases z : x = y
    · subst z
      rw [if_pos rfl]
      simp [List.cons_lt_cons_iff]
    · rw [if_neg z]
      refine decide_eq_decide.mpr ?_
      rw [List.cons_lt_cons_iff]
      exact ⟨fun h => .inl h, fun h => h.elim id fun w => absurd w.1 z⟩
theorem dataLt_tupI (a b : List Int) : PySem.W.dataLt (tupI a) (tupI b) = HT.lexLt a b := by
  rw [lex_lt, ← PySem.W.dataLt_ints]
  exact PySem.W.dataLt_tuple _ _
theorem alikeAll_ints : ∀ a b : List Int, PySem.W.alikeAll (a.map PyData.int) (b.map PyData.int) = true
  | [], _ => by simp [PySem.W.alikeAll]
  | _ :: _, [] => by simp [PySem.W.alikeAll]
  | x :: a, y :: b => by
    have := alikeAll_ints a b
    simp [PySem.W.alikeAll, PySem.W.alike, this]
theorem alike_tupI (a b : List Int) : PySem.W.alike (tupI a) (tupI b) = true := by
  show PySem.W.alike (.tuple _) (.tuple _) = true
  simp only [PySem.W.alike]
  exact alikeAll_ints a b
theorem depth_tupI (a : List Int) : (tupI a).depth ≤ 1 := by
  have q := lay_ints a
  unfold tupI
  simp only [PyData.depth, q.2]
  omega
def rGtD (K : PySem.W.Frag) : R2 := fun x y H Q => ∃ d e, Dp K H x d ∧ Dp K H y e ∧ PySem.W.alike d e = true ∧ d ≠ .none ∧ d.depth ≤ 64 ∧ Q (.bl (PySem.W.dataLt e d)) H
theorem op_gtD {X : Cx} (hu : X.A.units + 64 < cLine) : OpR X (compareOp .Gt) (rGtD X.K) := by
  intro pins s σ H x y v u Q I rx ry h
  obtain ⟨d, e, hd, he, al, dn, dl, q⟩ := h
  obtain ⟨as, r1⟩ := Dp.reads I d x v hd rx
  obtain ⟨bs, r2⟩ := Dp.reads I e y u he ry
  exact PySem.W.gt_data r1 r2 al dn (by omega) ⟨.bl _, H, I, rfl, q⟩
def rLtD (K : PySem.W.Frag) : R2 := fun x y H Q => ∃ d e, Dp K H x d ∧ Dp K H y e ∧ PySem.W.alike d e = true ∧ d ≠ .none ∧ d.depth ≤ 64 ∧ Q (.bl (PySem.W.dataLt d e)) H
theorem op_ltD {X : Cx} (hu : X.A.units + 64 < cLine) : OpR X (compareOp .Lt) (rLtD X.K) := by
  intro pins s σ H x y v u Q I rx ry h
  obtain ⟨d, e, hd, he, al, dn, dl, q⟩ := h
  obtain ⟨as, r1⟩ := Dp.reads I d x v hd rx
  obtain ⟨bs, r2⟩ := Dp.reads I e y u he ry
  exact PySem.W.lt_data r1 r2 al dn (by omega) ⟨.bl _, H, I, rfl, q⟩
section
variable {K : PySem.W.Frag} {σ : L2.St} {H : Hp} {ta tb : TE}
theorem ev_gtTI {a b : List Int} (h1 : EvD K ta σ H (tupI a)) (h2 : EvD K tb σ H (tupI b)) : Ev (tOp (rGtD K) ta tb) σ H (.bl (HT.lexLt b a)) := fun H1 e Q q =>
  h1 H1 e _ fun v H2 e2 hv => h2 H2 (e.trans e2) _ fun w H3 e3 hw => ⟨tupI a, tupI b, dp_ex e3 _ hv, hw, alike_tupI a b, (by intro z; cases z), Nat.le_trans (depth_tupI a) (by decide), by
    rw [dataLt_tupI]
    exact q _ (e2.trans e3)⟩
theorem ev_ltTI {a b : List Int} (h1 : EvD K ta σ H (tupI a)) (h2 : EvD K tb σ H (tupI b)) : Ev (tOp (rLtD K) ta tb) σ H (.bl (HT.lexLt a b)) := fun H1 e Q q =>
  h1 H1 e _ fun v H2 e2 hv => h2 H2 (e.trans e2) _ fun w H3 e3 hw => ⟨tupI a, tupI b, dp_ex e3 _ hv, hw, alike_tupI a b, (by intro z; cases z), Nat.le_trans (depth_tupI a) (by decide), by
    rw [dataLt_tupI]
    exact q _ (e2.trans e3)⟩
end
end WR
set_option Elab.async false
set_option linter.all false
set_option maxRecDepth 100000
set_option maxHeartbeats 1000000
namespace WR
open PySem PySem.Spec PyProof.Rows L2 Evl

/-! ### sorted of tuples of integers, of any lengths (none empty) -/
abbrev encP (b : Int × List Int) : PyData := tupI (b.1 :: b.2)
def rSortP (K : PySem.W.Frag) : List V → Hp → VK → Prop := fun vs H Q => ∃ (a : Addr) (xs : List V) (bs : List (Int × List Int)), vs = [V.ref a] ∧ SqL K H a xs ∧ DpAll K H xs (bs.map encP) ∧ bs.length ≤ 100000 ∧
  ∀ (ys : List V) (p : Addr), DpAll K H ys ((bs.mergeSort (PySem.W.dataLe false encP)).map encP) → H p = none → Q (.ref p) (upd H p (.lst ys))
theorem each_in {R : V → Value → Prop} {K : PySem.W.Frag} {H : Hp} : ∀ {xs : List V} {us : List Value} {bs : List (Int × List Int)}, Vals xs us → DpAll K H xs (bs.map encP) → PySem.W.EachIs (fun v b => ∃ x, RelV x v ∧ Dp K H x (encP b)) us bs
  | [], us, bs, hv, hd => by
    cases hv
    cases bs with
    | nil => exact .nil
    | cons b r => cases hd
  | x :: xs, us, bs, hv, hd => by
    cases hv with
    | cons h1 h2 =>
      cases bs with
      | nil => cases hd
      | cons b r =>
        cases hd with
        | cons d1 d2 => exact .cons ⟨x, h1, d1⟩ (each_in (R := R) h2 d2)
theorem each_out {K : PySem.W.Frag} {H : Hp} : ∀ {us : List Value} {bs : List (Int × List Int)}, PySem.W.EachIs (fun v b => ∃ x, RelV x v ∧ Dp K H x (encP b)) us bs → ∃ ys, Vals ys us ∧ DpAll K H ys (bs.map encP)
  | _, _, .nil => ⟨[], .nil, .nil⟩
  | _, _, .cons ⟨x, h1, h2⟩ hr => by
    obtain ⟨ys, a, b⟩ := each_out hr
    exact ⟨x :: ys, .cons h1 a, .cons h2 b⟩
theorem cr_sortP {X : Cx} (hu : X.A.units + 64 < cLine) : CallR X (.builtin "sorted") (rSortP X.K) := by
  intro pins s σ H vs us Q I r h
  obtain ⟨a, xs, bs, rfl, hs, hd, hl, q⟩ := h
  obtain ⟨its, rv, hli, hz⟩ := I.list hs
  rw [Vals.ref1 r]
  have e := each_in (R := fun _ _ => True) rv hd
  have er : PySem.W.EachIs (fun v b => ∃ as, Reads s.heap v (encP b) as) its bs := e.mono fun v b ⟨x, h1, h2⟩ => Dp.reads I (encP b) x v h2 h1
  have hlen : its.length = bs.length := e.length
  refine PySem.W.sorted_data hli.isList e er (PySem.W.AllAlike.of fun b b' => alike_tupI _ _) (PySem.W.Sortable.tuples fun b => ⟨_, _, rfl⟩) (sz_of hl) (fun b _ => ?_) fun out h1 h2 => ?_
  · have := depth_tupI (b.1 :: b.2)
    show X.A.units + 2 + (tupI (b.1 :: b.2)).depth < cLine
    omega
  · obtain ⟨ys, v1, v2⟩ := each_out h2
    obtain ⟨ep, hat⟩ := PyProof.Rows.sortedAll_at s.heap its out.toArray
    have hyl : ys.length ≤ sizeLine := by
      rw [v1.length, h1]
      exact sz_of hl
    exact ⟨.ref _, upd H (s.heap.objs.size + 1) (.lst ys), I.laid (t' := s.toks) (fun _ _ => PyProof.Rows.sortedAll_old) (Nat.le_succ _) ⟨hyl, out, ep, v1, hat⟩, rfl, q ys _ v2 (I.hok.fresh (Nat.le_succ _))⟩
section
variable {K : PySem.W.Frag} {σ : L2.St} {H : Hp} {te : TE}
theorem en_sortP {bs : List (Int × List Int)} (h : EvD K te σ H (.list (bs.map encP))) (hl : bs.length ≤ 100000) :
    EvN K (tCB (rSortP K) (tCons te tNil)) σ H ((bs.mergeSort (PySem.W.dataLe false encP)).map encP) := fun H1 e Q q =>
  h H1 e _ fun v H2 e2 hv => by
    obtain ⟨a, xs, rfl, hs, hd⟩ := dp_lst hv
    exact ⟨a, xs, bs, rfl, hs, hd, hl, fun ys p hy hp => q p ys _ (fresh_back e2 hp) (e2.trans (Ex.new hp)) upd_same (dpAll_ex (Ex.new hp) _ hy)⟩
end
/-! the sorted list is the only one in order -/
def leP (a b : Int × List Int) : Bool := !HT.lexLt (b.1 :: b.2) (a.1 :: a.2)
theorem dataLe_P : PySem.W.dataLe false encP = leP := by
  funext a b
  show (!PySem.W.dataLt (encP b) (encP a)) = _
  rw [dataLt_tupI]
  rfl
theorem lex_total : ∀ {a b : List Int}, HT.lexLt a b = false → HT.lexLt b a = false → a = b
  | [], [], _, _ => rfl
  | [], _ :: _, h, _ => by cases h
  | _ :: _, [], _, h => by cases h
  | x :: a, y :: b, h1, h2 => by
    rw [HT.lexLt_cons] at h1 h2
    by_cases z : x = y
    · rw [if_pos z] at h1
      rw [if_pos z.symm] at h2
      rw [z, lex_total h1 h2]
    · rw [if_neg z] at h1
      rw [if_neg (Ne.symm z)] at h2
      have := of_decide_eq_false h1
      have := of_decide_eq_false h2
      omega
theorem lex_trans : ∀ {a b c : List Int}, HT.lexLt a b = true → HT.lexLt b c = true → HT.lexLt a c = true
  | [], [], _, h, _ => by cases h
  | [], _ :: _, [], _, h => by cases h
  | [], _ :: _, _ :: _, _, _ => rfl
  | _ :: _, [], _, h, _ => by cases h
  | _ :: _, _ :: _, [], _, h => by cases h
  | x :: a, y :: b, z :: c, h1, h2 => by
    rw [HT.lexLt_cons] at h1 h2 ⊢
    by_cases p : x = y
    · rw [if_pos p] at h1
      by_cases q : y = z
      · rw [if_pos q] at h2
        rw [if_pos (p.trans q)]
        exact lex_trans h1 h2
      · rw [if_neg q] at h2
        rw [if_neg (p ▸ q), p]
        exact h2
    · rw [if_neg p] at h1
      have h1 := of_decide_eq_true h1
      by_cases q : y = z
      · rw [if_neg (q ▸ p)]
        exact decide_eq_true (by omega)
      · rw [if_neg q] at h2
        have h2 := of_decide_eq_true h2
        rw [if_neg (by omega)]
        exact decide_eq_true (by omega)
theorem leP_sort {bs cs : List (Int × List Int)} (hp : bs.Perm cs) (hc : cs.Pairwise fun a b => HT.lexLt (a.1 :: a.2) (b.1 :: b.2) = true) : bs.mergeSort (PySem.W.dataLe false encP) = cs := by
  rw [dataLe_P]
  have htr : ∀ a b c : Int × List Int, leP a b = true → leP b c = true → leP a c = true := fun a b c h1 h2 => by
    unfold leP at h1 h2 ⊢
    rw [Bool.not_eq_true'] at h1 h2 ⊢
    cases e : HT.lexLt (c.1 :: c.2) (a.1 :: a.2) with
    | false => rfl
    | true =>
      cases e2 : HT.lexLt (b.1 :: b.2) (c.1 :: c.2) with
      | true =>
        have := lex_trans e2 e
        rw [h1] at this
        cases this
      | false =>
        have := lex_total h2 e2
        rw [this, h1] at e
        cases e
  have htot : ∀ a b : Int × List Int, (leP a b || leP b a) = true := fun a b => by
    unfold leP
    cases e : HT.lexLt (b.1 :: b.2) (a.1 :: a.2) with
    | false => rfl
    | true =>
      rw [lex_asymm e]
      rfl
  have hs := List.pairwise_mergeSort htr htot bs
  have hpm : (bs.mergeSort leP).Perm cs := (List.mergeSort_perm bs leP).trans hp
  have hanti : ∀ a b : Int × List Int, leP a b = true → leP b a = true → a = b := fun a b h1 h2 => by
    unfold leP at h1 h2
    rw [Bool.not_eq_true'] at h1 h2
    have := lex_total h2 h1
    have e1 := List.cons.inj this
    exact Prod.ext e1.1 e1.2
  have hc2 : cs.Pairwise fun a b => leP a b = true := hc.imp fun {a b} h => by
    unfold leP
    rw [lex_asymm h]
    rfl
  refine List.Perm.eq_of_pairwise (fun a b _ _ h1 h2 => hanti a b h1 h2) hs hc2 hpm
end WR
set_option Elab.async false
set_option linter.all false
set_option maxRecDepth 100000
set_option maxHeartbeats 1000000
namespace WR
open PySem PySem.Spec PyProof.Rows L2 Evl

/-! ### all ways, in order: the mathematics -/
def extW (kf : Nat → List Nat) (to : Nat) : Nat → Nat → List (List Nat)
  | 0, u => if u = to then [[u]] else []
  | n + 1, u => (if u = to then [[u]] else []) ++ (kf u).flatMap fun c => (extW kf to n c).map (u :: ·)
def extU (kf : Nat → List Nat) (to u : Nat) : List (List Nat) := extW kf to u u
section
variable {kf : Nat → List Nat} (hd : ∀ u c, c ∈ kf u → c < u)
include hd
theorem ext_fuel {to : Nat} : ∀ {n m u : Nat}, u ≤ n → u ≤ m → extW kf to n u = extW kf to m u := fun {n m u} => by
  induction n generalizing m u with
  | zero =>
    intro h1 h2
    obtain rfl : u = 0 := by omega
    have hk : kf 0 = [] := by
      cases e : kf 0 with
      | nil => rfl
      | cons a r => exact absurd (hd 0 a (by rw [e]; exact List.mem_cons_self ..)) (Nat.not_lt_zero _)
    cases m with
    | zero => rfl
    | succ m =>
      show _ = _ ++ (kf 0).flatMap _
      rw [hk, List.flatMap_nil, List.append_nil]
      rfl
  | succ n ih =>
    intro h1 h2
    cases m with
    | zero =>
      obtain rfl : u = 0 := by omega
      have hk : kf 0 = [] := by
        cases e : kf 0 with
        | nil => rfl
        | cons a r => exact absurd (hd 0 a (by rw [e]; exact List.mem_cons_self ..)) (Nat.not_lt_zero _)
      show _ ++ (kf 0).flatMap _ = _
      rw [hk, List.flatMap_nil, List.append_nil]
      rfl
    | succ m =>
      show _ ++ (kf u).flatMap (fun c => (extW kf to n c).map (u :: ·)) = _ ++ (kf u).flatMap fun c => (extW kf to m c).map (u :: ·)
      congr 1
      have : ∀ ks : List Nat, (∀ c ∈ ks, c < u) → ks.flatMap (fun c => (extW kf to n c).map (u :: ·)) = ks.flatMap fun c => (extW kf to m c).map (u :: ·) := fun ks => by
        induction ks with
        | nil => exact fun _ => rfl
        | cons a r ih2 =>
          intro h
          rw [List.flatMap_cons, List.flatMap_cons, ih2 fun c hc => h c (List.mem_cons_of_mem _ hc)]
          have ha := h a (List.mem_cons_self ..)
          rw [ih (m := m) (u := a) (by omega) (by omega)]
      exact this _ (hd u)
theorem extU_rec {to u : Nat} : extU kf to u = (if u = to then [[u]] else []) ++ (kf u).flatMap fun c => (extU kf to c).map (u :: ·) := by
  have e : extU kf to u = extW kf to (u + 1) u := ext_fuel hd (Nat.le_refl u) (Nat.le_succ u)
  rw [e]
  show _ ++ (kf u).flatMap (fun c => (extW kf to u c).map (u :: ·)) = _
  congr 1
  have : ∀ ks : List Nat, (∀ c ∈ ks, c < u) → ks.flatMap (fun c => (extW kf to u c).map (u :: ·)) = ks.flatMap fun c => (extU kf to c).map (u :: ·) := fun ks => by
    induction ks with
    | nil => exact fun _ => rfl
    | cons a r ih2 =>
      intro h
      rw [List.flatMap_cons, List.flatMap_cons, ih2 fun c hc => h c (List.mem_cons_of_mem _ hc)]
      have ha := h a (List.mem_cons_self ..)
      rw [show extW kf to u a = extU kf to a from ext_fuel hd (by omega) (Nat.le_refl _)]
  exact this _ (hd u)
theorem ext_len {to : Nat} : ∀ {u : Nat}, ((extU kf to u).length : Int) = way kf to u := fun {u} => by
  induction u using Nat.strongRecOn with
  | ind u ih =>
    rw [extU_rec hd, way_rec (hd u), List.length_append, Int.natCast_add]
    have : ∀ ks : List Nat, (∀ c ∈ ks, c < u) → ((ks.flatMap fun c => (extU kf to c).map (u :: ·)).length : Int) = (ks.map (way kf to)).sum := fun ks => by
      induction ks with
      | nil => exact fun _ => rfl
      | cons a r ih2 =>
        intro h
        rw [List.flatMap_cons, List.length_append, Int.natCast_add, ih2 fun c hc => h c (List.mem_cons_of_mem _ hc), List.length_map, ih a (h a (List.mem_cons_self ..)), List.map_cons, List.sum_cons]
    rw [this _ (hd u)]
    split <;> simp <;> omega
theorem ext_mem {to : Nat} : ∀ {w : List Nat} {u : Nat}, isWayL kf (u :: w) → (u :: w).getLast? = some to → (u :: w) ∈ extU kf to u
  | [], u, _, h => by
    have : u = to := by simpa using h
    rw [extU_rec hd, if_pos this]
    exact List.mem_append_left _ (List.mem_singleton.mpr rfl)
  | c :: w, u, h1, h2 => by
    rw [extU_rec hd]
    refine List.mem_append_right _ (List.mem_flatMap.mpr ⟨c, h1.1, List.mem_map.mpr ⟨c :: w, ext_mem h1.2 ?_, rfl⟩⟩)
    rw [List.getLast?_cons_cons] at h2
    exact h2
end
theorem perm_of_sub {α : Type} [DecidableEq α] : ∀ {a b : List α}, a.Nodup → (∀ x ∈ a, x ∈ b) → b.length ≤ a.length → a.Perm b
  | [], b, _, _, h => by
    have : b = [] := List.length_eq_zero_iff.mp (by simpa using h)
    rw [this]
  | x :: a, b, hn, hs, h => by
    rw [List.nodup_cons] at hn
    have hx := hs x (List.mem_cons_self ..)
    have hp := List.perm_cons_erase hx
    refine (List.Perm.cons x (perm_of_sub hn.2 (fun y hy => (List.mem_erase_of_ne fun z => hn.1 (by rw [← z]; exact hy)).mpr (hs y (List.mem_cons_of_mem _ hy))) ?_)).trans hp.symm
    rw [List.length_erase_of_mem hx]
    rw [List.length_cons] at h
    omega
/-- all ways from k to a kind, ascending -/
def allC (kf : Nat → List Nat) (to k : Nat) : List (List Nat) := (List.range (way kf to k).toNat).map fun (p : Nat) => wayAt kf to k (p : Int)
def prW (W : List Nat) : Int × List Int := ((W.headD 0 : Nat), W.tail.map fun (x : Nat) => (x : Int))
theorem prW_cons {W : List Nat} (h : W ≠ []) : (prW W).1 :: (prW W).2 = W.map fun (x : Nat) => (x : Int) := by
  cases W with
  | nil => exact absurd rfl h
  | cons a r => rfl
theorem enc_prW {W : List Nat} (h : W ≠ []) : encP (prW W) = kidsD W := by
  show tupI ((prW W).1 :: (prW W).2) = _
  rw [prW_cons h, kidsD_tupI]
section
variable {kf : Nat → List Nat} (hd : ∀ u c, c ∈ kf u → c < u) (ha : ∀ u, (kf u).Pairwise (· < ·))
include hd ha
theorem allC_asc {to k : Nat} : (allC kf to k).Pairwise fun a b => HT.lexLt (a.map fun (x : Nat) => (x : Int)) (b.map fun (x : Nat) => (x : Int)) = true := by
  unfold allC
  rw [List.pairwise_map]
  refine List.Pairwise.imp_of_mem (fun {p q} hp hq h => ?_) (List.pairwise_lt_range (n := (way kf to k).toNat))
  have hq := List.mem_range.mp hq
  exact wayN_lt hd ha (Nat.le_refl k) (by omega) (by omega) (by omega)
theorem allC_ne {to k : Nat} : ∀ W ∈ allC kf to k, W ≠ [] := fun W hW => by
  obtain ⟨p, _, rfl⟩ := List.mem_map.mp hW
  obtain ⟨r, hr⟩ := wayN_cons hd ha (to := to) (n := k) (k := k) (p := (p : Int))
  unfold wayAt
  rw [hr]
  simp
theorem lexLt_irr (a : List Int) : HT.lexLt a a = false := by
  cases e : HT.lexLt a a with
  | false => rfl
  | true => rw [lex_asymm e] at e; exact e.symm ▸ rfl
theorem allC_nd {to k : Nat} : (allC kf to k).Nodup := (allC_asc hd ha).imp fun {a b} h z => by
  rw [z, lexLt_irr hd ha] at h
  cases h
theorem allC_perm {to k : Nat} : (allC kf to k).Perm (extU kf to k) := by
  refine perm_of_sub (allC_nd hd ha) (fun W hW => ?_) ?_
  · obtain ⟨p, hp, rfl⟩ := List.mem_map.mp hW
    have hp := List.mem_range.mp hp
    obtain ⟨h1, h2, _⟩ := wayN_ok hd ha (to := to) (n := k) (k := k) (p := (p : Int)) (Nat.le_refl k) (by omega) (by omega)
    obtain ⟨r, hr⟩ := wayN_cons hd ha (to := to) (n := k) (k := k) (p := (p : Int))
    unfold wayAt
    rw [hr] at h1 h2 ⊢
    exact ext_mem hd h1 h2
  · have := ext_len hd (to := to) (u := k)
    unfold allC
    rw [List.length_map, List.length_range]
    omega
end
/-! the walk that gathers them -/
def exts (kf : Nat → List Nat) (to : Nat) (W : List Nat) : List (List Nat) := (extU kf to (W.getLastD 0)).map fun s => W.dropLast ++ s
theorem dl_last {W : List Nat} (h : W ≠ []) : W.dropLast ++ [W.getLastD 0] = W := by
  have e2 := List.dropLast_concat_getLast h
  have e3 : W.getLast h = W.getLastD 0 := by rw [List.getLastD_eq_getLast?, List.getLast?_eq_some_getLast h]; rfl
  rw [e3] at e2
  exact e2
theorem exts_step {kf : Nat → List Nat} (hd : ∀ u c, c ∈ kf u → c < u) {to : Nat} {W : List Nat} (h : W ≠ []) : exts kf to W = (if W.getLastD 0 = to then [W] else []) ++ ((kf (W.getLastD 0)).map fun c => W ++ [c]).flatMap (exts kf to) := by
  unfold exts
  rw [extU_rec hd, List.map_append]
  congr 1
  · split
    · show [W.dropLast ++ [W.getLastD 0]] = [W]
      rw [dl_last h]
    · rfl
  · have : ∀ ks : List Nat, (ks.flatMap fun c => (extU kf to c).map (W.getLastD 0 :: ·)).map (fun s => W.dropLast ++ s) = (ks.map fun c => W ++ [c]).flatMap fun V => (extU kf to (V.getLastD 0)).map fun s => V.dropLast ++ s := fun ks => by
      induction ks with
      | nil => rfl
      | cons c r ih =>
        rw [List.flatMap_cons, List.map_append, ih, List.map_cons, List.flatMap_cons, lastD_snoc, List.dropLast_concat, List.map_map]
        congr 1
        refine List.map_congr_left fun s _ => ?_
        show W.dropLast ++ (W.getLastD 0 :: s) = W ++ s
        conv => rhs; rw [← dl_last h]
        rw [List.append_assoc]
        rfl
    exact this _
structure Al (kf : Nat → List Nat) (n k to : Nat) (fs ws : List (List Nat)) : Prop where
  all : (fs ++ ws.flatMap (exts kf to)).Perm (extU kf to k)
  ok : ∀ W ∈ ws, WOk n W
  okf : ∀ W ∈ fs, WOk n W
  stk : ∃ b, Stk (n + 1) b (ws.map fun W => W.getLastD 0)
theorem Al.step {kf : Nat → List Nat} {n k to : Nat} {fs ws : List (List Nat)} {W : List Nat} (hd : ∀ u c, c ∈ kf u → c < u) (hl : ∀ u, (kf u).length ≤ 30) (h : Al kf n k to fs (ws ++ [W])) :
    Al kf n k to (fs ++ if W.getLastD 0 = to then [W] else []) (ws ++ (kf (W.getLastD 0)).map fun c => W ++ [c]) := by
  have hW := h.ok W (by simp)
  refine ⟨?_, fun V hV => ?_, fun V hV => ?_, ?_⟩
  · refine List.Perm.trans ?_ h.all
    rw [List.flatMap_append, List.flatMap_append, List.flatMap_cons, List.flatMap_nil, List.append_nil, exts_step hd hW.ne]
    simp only [List.append_assoc]
    refine List.Perm.append_left fs ?_
    rw [← List.append_assoc, ← List.append_assoc]
    exact List.Perm.append_right _ List.perm_append_comm
  · rcases List.mem_append.mp hV with hV | hV
    · exact h.ok V (List.mem_append_left _ hV)
    · obtain ⟨c, hc, rfl⟩ := List.mem_map.mp hV
      exact hW.snoc (hd _ c hc)
  · rcases List.mem_append.mp hV with hV | hV
    · exact h.okf V hV
    · split at hV
      · rw [List.mem_singleton.mp hV]
        exact hW
      · cases hV
  · obtain ⟨b, hb⟩ := h.stk
    rw [List.map_append] at hb
    obtain ⟨b', h1, h2⟩ := hb.pop (x := W.getLastD 0) (l := ws.map fun W => W.getLastD 0) rfl
    refine ⟨W.getLastD 0, ?_⟩
    rw [List.map_append]
    have e2 : (((kf (W.getLastD 0)).map fun c => W ++ [c]).map fun W => W.getLastD 0) = kf (W.getLastD 0) := by
      rw [List.map_map]
      conv => rhs; rw [← List.map_id (kf (W.getLastD 0))]
      exact List.map_congr_left fun c _ => lastD_snoc
    rw [e2]
    exact .grp h2 h1 (hl _) fun z hz => hd _ z hz
theorem Al.start {kf : Nat → List Nat} {n k to : Nat} (hk : k < n) : Al kf n k to [] [[k]] := by
  refine ⟨?_, fun W hW => ?_, fun W hW => (by cases hW), n, ?_⟩
  · have : exts kf to [k] = extU kf to k := by
      show (extU kf to k).map (fun s => [] ++ s) = _
      conv => rhs; rw [← List.map_id (extU kf to k)]
      rfl
    rw [List.nil_append, List.flatMap_cons, List.flatMap_nil, List.append_nil, this]
  · rw [List.mem_singleton.mp hW]
    exact ⟨by simp, by simp, fun c hc => by rw [List.mem_singleton.mp hc]; exact hk, fun c hc => by rw [List.mem_singleton.mp hc]; exact Nat.le_refl _⟩
  · exact .grp (rest := []) .nil (Nat.lt_succ_self n) (by simp) (fun x hx => by rw [List.mem_singleton.mp hx]; exact hk)
theorem Al.few {kf : Nat → List Nat} {n k to : Nat} {fs ws : List (List Nat)} (hd : ∀ u c, c ∈ kf u → c < u) (h : Al kf n k to fs ws) : (fs.length : Int) ≤ way kf to k := by
  have := h.all.length_eq
  rw [List.length_append] at this
  rw [← ext_len hd]
  omega
theorem Al.done {kf : Nat → List Nat} {n k to : Nat} {fs : List (List Nat)} (hd : ∀ u c, c ∈ kf u → c < u) (ha : ∀ u, (kf u).Pairwise (· < ·)) (h : Al kf n k to fs []) : ((fs.map prW).mergeSort (PySem.W.dataLe false encP)).map encP = (allC kf to k).map kidsD := by
  have hp : fs.Perm (allC kf to k) := by
    have := h.all
    rw [List.flatMap_nil, List.append_nil] at this
    exact this.trans (allC_perm hd ha).symm
  rw [leP_sort (hp.map prW) ?_, List.map_map]
  · exact List.map_congr_left fun W hW => enc_prW (allC_ne hd ha W hW)
  · rw [List.pairwise_map]
    refine List.Pairwise.imp_of_mem (fun {a b} hA hB hlt => ?_) (allC_asc hd ha)
    rw [prW_cons (allC_ne hd ha a hA), prW_cons (allC_ne hd ha b hB)]
    exact hlt
end WR
set_option Elab.async false
set_option linter.all false
set_option maxRecDepth 100000
set_option maxHeartbeats 2000000
namespace WR
open PySem PySem.Spec PyProof.Rows L2 Evl

/-! ### lowest terms -/
def lowD (a b : Int) : PyData := .tuple [.int (a / ((Nat.gcd a.natAbs b.natAbs : Nat) : Int)), .int (b / ((Nat.gcd a.natAbs b.natAbs : Nat) : Int))]
def spLow (K : PySem.W.Frag) : Sp := fun vs H Q _ => ∃ a b : Int, vs = [.int a, .int b] ∧ 0 ≤ a ∧ 1 ≤ b ∧ b ≤ 1000000 ∧ ∀ r H', Ex H H' → Dp K H' r (lowD a b) → Q r H'
theorem ed_low {K : PySem.W.Frag} {σ : L2.St} {H : Hp} {ta tb : TE} {E : XK} {a b : Int} (h1 : Ev ta σ H (.int a)) (h2 : Ev tb σ H (.int b)) (h0 : 0 ≤ a) (hb : 1 ≤ b) (hb2 : b ≤ 1000000) : EvD K (tCall (spLow K) [] E (tCons ta (tCons tb tNil))) σ H (lowD a b) := fun H1 e Q q =>
  h1 H1 e _ fun H2 e2 => h2 H2 (e.trans e2) _ fun H3 e3 => ⟨a, b, rfl, h0, hb, hb2, fun r H4 e4 hr => q r H4 ((e2.trans e3).trans e4) hr⟩
theorem gcd_bnd {a b : Int} (hb : 1 ≤ b) (hb2 : b ≤ 1000000) : 0 < ((Nat.gcd a.natAbs b.natAbs : Nat) : Int) ∧ ((Nat.gcd a.natAbs b.natAbs : Nat) : Int) ≤ 1000000 := by
  have h1 : 0 < Nat.gcd a.natAbs b.natAbs := Nat.gcd_pos_of_pos_right _ (by omega)
  have h2 := Nat.gcd_le_right a.natAbs (n := b.natAbs) (by omega)
  omega
theorem q_parVV2 {σ : L2.St} {H : Hp} {D : Ends} {tz : TS} {ta tb : TE} {i j : Nat} {a b : V} (h1 : Ev ta σ H a) (h2 : Ev tb σ H b) (k : ∀ H1, Ex H H1 → tz D ((σ.set i (some a)).set j (some b)) H1) : tSeq (tPar i j (tCons ta (tCons tb tNil))) tz D σ H :=
  h1 H (Ex.refl H) _ fun H1 e1 => h2 H1 e1 _ fun H2 e2 => ⟨_, _, rfl, k H2 (e1.trans e2)⟩
theorem s_parVV2 {σ : L2.St} {H : Hp} {D : Ends} {ta tb : TE} {i j : Nat} {a b : V} (h1 : Ev ta σ H a) (h2 : Ev tb σ H b) (k : ∀ H1, Ex H H1 → D.nx ((σ.set i (some a)).set j (some b)) H1) : tPar i j (tCons ta (tCons tb tNil)) D σ H :=
  h1 H (Ex.refl H) _ fun H1 e1 => h2 H1 e1 _ fun H2 e2 => ⟨_, _, rfl, k H2 (e1.trans e2)⟩
def spFrac (K : PySem.W.Frag) : Sp := fun vs H Q _ => ∃ v l inner k x, vs = [v, nV k, nV x] ∧ Dp K H v (webD l inner) ∧ Raw l inner ∧ k < l + inner.length ∧ x < l + inner.length ∧ 1 ≤ way (kidsAt l inner) x (topN l inner) ∧ way (kidsAt l inner) x (topN l inner) ≤ 1000000 ∧
  ∀ r H', Ex H H' → Dp K H' r (lowD (way (kidsAt l inner) k (topN l inner) * way (kidsAt l inner) x k) (way (kidsAt l inner) x (topN l inner))) → Q r H'
section
variable {P : Program} {w : World} {K : PySem.W.Frag} {mg : Str → Option Value} {base : Heap}
end
end WR
-- auto
set_option Elab.async false
set_option linter.all false
set_option maxRecDepth 100000
set_option maxHeartbeats 1000000
namespace WR
open PySem PySem.Spec PyProof.Rows L2 Evl

/-! ### values that are drawn, over a base that stands -/
section
variable {K : PySem.W.Frag} {σ : L2.St} {H : Hp} {ta tb te t1 : TE} {dk L : Addr} {ns : List Int} {D : Ends} {tz : TS}
def Keep (dk L : Addr) (ns : List Int) (Pr : V → Hp → Prop) : Prop := ∀ v H1 H2 N M, Dk H1 dk L ns N → Bs H1 H2 dk L ns M → Pr v H1 → Pr v H2
def EvP (σ : L2.St) (H : Hp) (dk L : Addr) (ns : List Int) (te : TE) (c : Int) (Pr : V → Hp → Prop) : Prop := ∀ H1 N, Bs H H1 dk L ns N → N + c ≤ 380000000 → ∀ Q : VK, (∀ v H2, Bs H1 H2 dk L ns (N + c) → Pr v H2 → Q v H2) → te σ H1 Q
def EvPA (σ : L2.St) (H : Hp) (dk L : Addr) (ns : List Int) (ta : TA) (m : Nat) (c : Int) (Pr : V → Hp → Prop) : Prop := ∀ H1 N, Bs H H1 dk L ns N → N + c ≤ 380000000 → ∀ Q : List V → Hp → Prop, (∀ vs H2, Bs H1 H2 dk L ns (N + c) → vs.length = m → (∀ v ∈ vs, Pr v H2) → Q vs H2) → ta σ H1 Q
theorem EvP.imp {c : Int} {Pr Pr' : V → Hp → Prop} (h : EvP σ H dk L ns te c Pr) (k : ∀ v H, Pr v H → Pr' v H) : EvP σ H dk L ns te c Pr' := fun H1 N b hN Q q => h H1 N b hN Q fun v H2 b2 p => q v H2 b2 (k v H2 p)
theorem EvP.wk {c c' : Int} {Pr : V → Hp → Prop} (h : EvP σ H dk L ns te c Pr) (hc : c ≤ c') : EvP σ H dk L ns te c' Pr := fun H1 N b hN Q q => h H1 N b (by omega) Q fun v H2 b2 p => q v H2 (b2.wk (by omega)) p
theorem evp_ev {v : V} {Pr : V → Hp → Prop} (h : ∀ H1 N, Bs H H1 dk L ns N → Ev te σ H1 v) (p : ∀ H1 N, Bs H H1 dk L ns N → Pr v H1) : EvP σ H dk L ns te 0 Pr := fun H1 N b _ Q q =>
  h H1 N b H1 (Ex.refl H1) _ fun H2 e2 => q v H2 ((Bs.rfl b.deck).more e2 |>.wk (by omega)) (p H2 N (b.more e2))
theorem evpa_nil {Pr : V → Hp → Prop} : EvPA σ H dk L ns tNil 0 0 Pr := fun H1 N b _ Q q => q [] H1 ((Bs.rfl b.deck).wk (by omega)) rfl fun v h => by cases h
theorem evpa_cons {m : Nat} {c d : Int} {tr : TA} {Pr : V → Hp → Prop} (kp : Keep dk L ns Pr) (h : EvP σ H dk L ns te c Pr) (hr : EvPA σ H dk L ns tr m d Pr) (hd : 0 ≤ d) (hc : 0 ≤ c) : EvPA σ H dk L ns (tCons te tr) (m + 1) (c + d) Pr := fun H1 N b hN Q q =>
  h H1 N b (by omega) _ fun v H2 b2 p => hr H2 (N + c) (b.tr b2) (by omega) _ fun vs H3 b3 hl hvs => q _ H3 ((b2.tr b3).wk (by omega)) (by rw [List.length_cons, hl]) fun x hx => by
    rcases List.mem_cons.mp hx with rfl | hx
    · exact kp x H2 H3 _ _ b2.deck b3 p
    · exact hvs x hx
/-- one(deck, [..]) -/
theorem evp_one {E : XK} {ta' : TA} {m : Nat} {c : Int} {Pr : V → Hp → Prop} (kp : Keep dk L ns Pr) (h1 : ∀ H, Ev t1 σ H (.ref dk)) (ha : EvPA σ H dk L ns ta' m c Pr) (hm : 1 ≤ m) (hm2 : m ≤ 1000) (hc : c ≤ 100000) (hc0 : 0 ≤ c) :
    EvP σ H dk L ns (tCall (spOne K) [] E (tCons t1 (tCons (tLst ta') tNil))) (c + 1) (fun v H => Pr v H) := fun H1 N b hN Q q =>
  h1 H1 H1 (Ex.refl H1) _ fun H2 e2 => by
    refine ha H2 N (b.more e2) (by omega) _ fun vs H3 b3 hl hvs => ⟨sz_of (by omega), fun li hli => ?_⟩
    have en := Ex.new (o := .lst vs) hli
    have b4 := b3.more en
    have hne := b3.deck.ne hli
    refine ⟨dk, L, ns, _, li, vs, Eq.refl _, b4.deck, by omega, upd_same, hne, by omega, by omega, fun x H5 hx e5 d5 => ?_⟩
    have b45 : Bs (upd H3 li (.lst vs)) H5 dk L ns (N + c + 1) := ⟨e5, d5, by obtain ⟨a, b', n, d, _⟩ := b4.deck; exact ⟨_, d.at_⟩, by obtain ⟨a, b', n, d, _⟩ := b4.deck; exact ⟨_, d.ls⟩⟩
    have b15 : Bs H1 H5 dk L ns (N + (c + 1)) := (((Bs.rfl b.deck).more e2).tr (b4.tr b45)).wk (by omega)
    have b3' : Bs H3 H5 dk L ns (N + c + 1) := ((Bs.rfl b3.deck).more en).tr b45
    exact q x H5 b15 (kp x H3 H5 _ _ b3.deck b3' (hvs x hx))
/-- draw(deck, m) -/
def PrN (S : Nat → Prop) (v : V) (_ : Hp) : Prop := ∃ r, S r ∧ v = nV r
theorem keep_N {S : Nat → Prop} : Keep dk L ns (PrN S) := fun _ _ _ _ _ _ _ h => h
theorem evp_draw {E : XK} {m : Nat} (h1 : ∀ H, Ev t1 σ H (.ref dk)) (h2 : ∀ H1 N, Bs H H1 dk L ns N → Ev tb σ H1 (nV m)) (hm : 1 ≤ m) (hm2 : m ≤ 1000000) : EvP σ H dk L ns (tCall spDraw [] E (tCons t1 (tCons tb tNil))) 1 (PrN fun r => r < m) := fun H1 N b hN Q q =>
  ev_draw (h1 H1) (h2 H1 N b) b.deck (by omega) hm hm2 H1 (Ex.refl H1) Q fun r H2 hr b2 => q _ H2 b2 ⟨r, hr, Eq.refl _⟩
/-- webs -/
def PrW (K : PySem.W.Frag) (C : Nat → List (List Nat) → Prop) (v : V) (H : Hp) : Prop := ∃ l inner, C l inner ∧ Dp K H v (webD l inner)
theorem keep_W {C : Nat → List (List Nat) → Prop} : Keep dk L ns (PrW K C) := fun v H1 H2 N M hD b h => by
  obtain ⟨l, inner, h1, h2⟩ := h
  exact ⟨l, inner, h1, b.at (K := K) hD (nl_webA l inner) h2⟩
theorem evp_web {E : XK} {mo mx : Nat} (h1 : ∀ H, Ev t1 σ H (.ref dk)) (m1 : 1 ≤ mo) (m8 : mo ≤ 8) (m9 : mx ≤ 9) : EvP σ H dk L ns (tCall (spLWeb K) [] E (tCons t1 (tCons (tC (nV mo)) (tCons (tC (nV mx)) tNil)))) 137 (PrW K fun l inner => Drawn l inner ∧ 1 ≤ l ∧ l ≤ mo) := fun H1 N b hN Q q =>
  h1 H1 H1 (Ex.refl H1) _ fun H2 e2 => ⟨dk, L, ns, N, mo, mx, Eq.refl _, b.deck.ex e2, by omega, m1, m8, by omega, fun H3 v Lv inner b3 l1 l2 hv hw => by
    refine q v H3 ?_ ⟨Lv, inner, ⟨hw, l1, l2⟩, hv⟩
    exact (((Bs.rfl b.deck).more e2).tr b3).wk (by omega)⟩
/-- x = a drawn value -/
theorem q_asgP {i : Nat} {c N : Int} {Pr : V → Hp → Prop} (h : EvP σ H dk L ns te c Pr) (hD : Dk H dk L ns N) (hN : N + c ≤ 380000000) (k : ∀ v H1, Bs H H1 dk L ns (N + c) → Pr v H1 → tz D (σ.set i (some v)) H1) : tSeq (tAsg te (gName i)) tz D σ H :=
  h H N (Bs.rfl hD) hN _ k
/-- x, y = two drawn values -/
theorem q_parP {i j : Nat} {c d N : Int} {Pr Pr' : V → Hp → Prop} (kp : Keep dk L ns Pr) (h : EvP σ H dk L ns ta c Pr) (h2 : EvP σ H dk L ns tb d Pr') (hD : Dk H dk L ns N) (hN : N + c + d ≤ 380000000) (hd : 0 ≤ d)
    (k : ∀ v w H1, Bs H H1 dk L ns (N + c + d) → Pr v H1 → Pr' w H1 → tz D ((σ.set i (some v)).set j (some w)) H1) : tSeq (tPar i j (tCons ta (tCons tb tNil))) tz D σ H :=
  h H N (Bs.rfl hD) (by omega) _ fun v H1 b1 p1 => h2 H1 (N + c) b1 (by omega) _ fun w H2 b2 p2 => ⟨v, w, Eq.refl _, k v w H2 (b1.tr b2) (kp v H1 H2 _ _ b1.deck b2 p1) p2⟩
end
end WR
set_option Elab.async false
set_option linter.all false
set_option maxRecDepth 100000
set_option maxHeartbeats 1000000
namespace WR
open PySem PySem.Spec PyProof.Rows L2 Evl

/-! ### zip of tuples, in of data in a tuple -/
theorem walk_zipT {K : PySem.W.Frag} {a b : Addr} {xs ys : List V} {n : Nat} (hn : n = min xs.length ys.length) : Walk (RZ.ItzT K a b) n (fun H => SqT K H a xs ∧ SqT K H b ys) (YPair (fun i => xs[i]?) (fun i => ys[i]?)) := by
  subst hn
  refine ⟨fun i _ hi q => ?_, fun _ q => ⟨xs, ys, q.1, q.2, by omega⟩, fun i H v H' _ q y => ?_⟩
  · have h1 : i < xs.length := by omega
    have h2 : i < ys.length := by omega
    exact ⟨xs, ys, xs[i], ys[i], q.1, q.2, by simp [h1], by simp [h2]⟩
  · obtain ⟨T, x, z, h1, h2, h3, h4, h5⟩ := y
    exact ⟨T, x, z, h1, h2, h3, h4 xs q.1, h5 ys q.2⟩
def rNotInDT (K : PySem.W.Frag) : R2 := fun x y H Q => ∃ d ds, Dp K H x d ∧ Dp K H y (.tuple ds) ∧ SeqAt.shaped d = true ∧ SeqAt.shaped (.tuple ds) = true ∧ Q (.bl (!ds.any fun z => PyData.eqv z d)) H
theorem op_notInDT {X : Cx} (hu : X.A.units + 65 < cLine) : OpR X (compareOp .NotIn) (rNotInDT X.K) := by
  intro pins s σ H x y v u Q I rx ry h
  obtain ⟨d, ds, hd, he, sd, se, q⟩ := h
  obtain ⟨as, r1⟩ := Dp.reads I d x v hd rx
  obtain ⟨bs, r2⟩ := Dp.reads I (.tuple ds) y u he ry
  exact SeqAt.notIn_tuple_reads r2 r1 (SeqAt.canLay_of_shaped se) (SeqAt.canLay_of_shaped sd) (room_in_shaped sd hu) ⟨.bl _, H, I, rfl, q⟩
section
variable {K : PySem.W.Frag} {σ : L2.St} {H H' : Hp} {ta tb te tx tl : TE} {t : TT} {D : Ends} {tz : TS} {ks xs ys : List Nat} {wi : TI}
theorem el_nil (h : EvN K te σ H []) : EvL te σ H (nVs []) := fun H1 e Q q => h H1 e _ fun p xs H2 hp e2 hx hd => by
  cases hd
  exact q p H2 hp e2 hx
theorem ev_eqNil (h : EvL ta σ H (nVs ks)) : Ev (tOp (rEqD K) ta (tLst tNil)) σ H (.bl ks.isEmpty) := fun H1 e Q q =>
  h H1 e _ fun p H2 hp e2 hx => ⟨by show 0 ≤ sizeLine; decide, fun l hl => ⟨.list (natDs ks), .list [], .lst (sq_of (Ex.new hl _ _ hx)) (dpAll_nat ks), .lst (sq_of upd_same) .nil, shaped_nats ks, shaped_nats [], by
    rw [eqv_nats_nil]
    exact q _ (e2.trans (Ex.new hl))⟩⟩
theorem ev_neNil (h : EvL ta σ H (nVs ks)) : Ev (tOp (rNeD K) ta (tLst tNil)) σ H (.bl (!ks.isEmpty)) := fun H1 e Q q =>
  h H1 e _ fun p H2 hp e2 hx => ⟨by show 0 ≤ sizeLine; decide, fun l hl => ⟨.list (natDs ks), .list [], .lst (sq_of (Ex.new hl _ _ hx)) (dpAll_nat ks), .lst (sq_of upd_same) .nil, shaped_nats ks, shaped_nats [], by
    rw [eqv_nats_nil]
    exact q _ (e2.trans (Ex.new hl))⟩⟩
/-- [.. for x in .. if ..], where no turn gives -/
theorem en_none {j : Nat} {vs : List Nat} {ds : List PyData} (h : Src K wi σ H ds) (hz : ds.length ≤ 40000) (hw : ∀ x, wipe ((wipe σ vs).set j (some x)) vs = wipe σ vs)
    (ht : ∀ d v H1, Ex H H1 → d ∈ ds → Dp K H1 v d → EvT t ((wipe σ vs).set j (some v)) H1 false) : EvN K (tLc wi (gName j) t te vs) σ H [] := by
  have q1 := en_lc (K := K) (te := te) (j := j) (vs := vs) (fun _ => none) h hz hw (fun d v H1 e hd hv => ht d v H1 e hd hv) (fun d r v H1 e hd hv hr => by cases hr) (fun d r hd hr => by cases hr)
  have e : ds.filterMap (fun _ => (none : Option PyData)) = [] := by
    induction ds with
    | nil => rfl
    | cons x r ih => simp
  rw [e] at q1
  exact q1
/-- the same over a zip of two tuples of kinds -/
theorem en_zipNone {i j : Nat} {vs : List Nat} (h1 : EvD K ta σ H (kidsD xs)) (h2 : EvD K tb σ H (kidsD ys)) (hw : ∀ x y, wipe (((wipe σ vs).set i (some x)).set j (some y)) vs = wipe σ vs)
    (ht : ∀ (m a b : Nat) H1, Ex H H1 → xs[m]? = some a → ys[m]? = some b → EvT t (((wipe σ vs).set i (some (nV a))).set j (some (nV b))) H1 false) :
    EvN K (tLc (RZ.iZipA K (tCons ta (tCons tb tNil))) (gTup K 2 (gCons (gName i) (gCons (gName j) gNil))) t te vs) σ H [] := fun H1 e Q q =>
  h1 H1 e _ fun v H2 e2 hv => h2 H2 (e.trans e2) _ fun w H3 e3 hw' => by
    obtain ⟨a, xa, rfl, hsx, hdx⟩ := dp_tup (dp_ex e3 _ hv)
    obtain ⟨b, yb, rfl, hsy, hdy⟩ := dp_tup hw'
    have hdx : DpAll K H3 xa (natDs xs) := hdx
    have hdy : DpAll K H3 yb (natDs ys) := hdy
    rw [nats_of hdx] at hsx
    rw [nats_of hdy] at hsy
    refine ⟨a, b, nVs xs, nVs ys, rfl, .inr ⟨hsx, hsy, fun Dl hD => ?_⟩⟩
    refine lc_it (walk_zipT (K := K) (a := a) (b := b) (xs := nVs xs) (ys := nVs ys) rfl) (fun m H' => Ex H3 H' ∧ H' Dl = some (.lst [])) ⟨Ex.new hD, upd_same⟩ (fun m H' _ p => ⟨ex_t p.1 hsx, ex_t p.1 hsy⟩) (fun m x H' H'' hm p hy => ?_) (fun H' p => ?_)
    · obtain ⟨T, x1, y1, rfl, hT, rfl, hx1, hy1⟩ := hy
      obtain ⟨c, hc, rfl, _, _⟩ := nVs_get hx1
      obtain ⟨d, hd, rfl, _, _⟩ := nVs_get hy1
      have en := Ex.new (o := .tup [nV c, nV d]) hT
      refine ⟨T, _, rfl, st_of upd_same, rfl, _, _, rfl, _, _, rfl, rfl, hw _ _, ?_⟩
      exact ht m c d _ (((e.trans e2).trans e3).trans (p.1.trans en)) hc hd _ (Ex.refl _) _ fun H5 e5 => ⟨p.1.trans (en.trans e5), (en.trans e5) _ _ p.2⟩
    · exact q Dl [] H' (fresh_back (e2.trans e3) hD) ((e2.trans e3).trans p.1) p.2 .nil
/-- t[1:] of a tuple of kinds -/
theorem ed_tail {a : Nat} {r : List Nat} (h : EvD K ta σ H (kidsD (a :: r))) : EvD K (tSl (rSlA K) ta (tPart (tC (.int 1))) tNoPart) σ H (kidsD r) := fun H1 e Q q =>
  h H1 e _ fun v H2 e2 hv => by
    obtain ⟨p, xs, rfl, hs, hd⟩ := dp_tup hv
    have hd : DpAll K H2 xs (natDs (a :: r)) := hd
    rw [nats_of hd] at hs
    have hl : (nVs (a :: r)).length = r.length + 1 := by unfold nVs; rw [List.length_map]; rfl
    have h1 : HT.sIx (nVs (a :: r)).length 0 (some 1) = 1 := by
      rw [show HT.sIx (nVs (a :: r)).length 0 (some 1) = min 1 (nVs (a :: r)).length from HT.sIx_nat _ _ 1, hl]
      omega
    have hc : cutV (nVs (a :: r)) (some 1) none = nVs r := by
      unfold cutV
      rw [h1, HT.sIx_none, hl]
      show (nVs r).take (r.length + 1 - 1) = _
      rw [List.take_of_length_le]
      unfold nVs
      rw [List.length_map]
      omega
    refine ⟨1, rfl, p, _, rfl, hs, fun z => ?_, fun _ c nc => ?_⟩
    · rw [h1] at z
      exact absurd z.1 (by decide)
    · rw [hc]
      exact q _ _ (e2.trans (Ex.new nc)) (.tup (st_of upd_same) (dpAll_nat r))
end
end WR
set_option Elab.async false
set_option linter.all false
set_option maxRecDepth 100000
set_option maxHeartbeats 2000000
namespace WR
open PySem PySem.Spec PyProof.Rows L2 Evl
section
variable {P : Program} {w : World} {K : PySem.W.Frag} {mg : Str → Option Value} {base : Heap}
end
end WR
-- auto
set_option Elab.async false
set_option linter.all false
set_option maxRecDepth 100000
set_option maxHeartbeats 2000000
namespace WR
open PySem PySem.Spec PyProof.Rows L2 Evl

/-! ### lists of tuples that grow and shrink -/
theorem eqv_listNil : ∀ ds : List PyData, PyData.eqv (.list ds) (.list []) = ds.isEmpty
  | [] => by simp [PyData.eqv, PyData.eqvAll]
  | _ :: _ => by simp [PyData.eqv, PyData.eqvAll]
theorem lay_kids : ∀ ws : List (List Nat), PyData.canLayAll0 (ws.map kidsD) = true ∧ PyData.depthAll (ws.map kidsD) ≤ 1
  | [] => by simp [PyData.canLayAll0, PyData.depthAll]
  | w :: ws => by
    have ih := lay_kids ws
    have q := lay_ints (w.map fun (k : Nat) => (k : Int))
    rw [List.map_cons, kidsD_tupI]
    unfold tupI
    simp only [PyData.canLayAll0, PyData.canLay0, PyData.depthAll, PyData.depth, q.1, q.2, ih.1]
    exact ⟨rfl, by omega⟩
theorem shaped_kids (ws : List (List Nat)) : SeqAt.shaped (.list (ws.map kidsD)) = true := by
  have q := lay_kids ws
  show (PyData.canLay0 _ && decide (PyData.depth _ ≤ 64)) = true
  simp only [PyData.canLay0, PyData.depth, q.1]
  rw [Bool.true_and]
  exact decide_eq_true (by omega)
theorem et_neNilD {K : PySem.W.Frag} {σ : L2.St} {H : Hp} {ta : TE} {l : Addr} {ws : List (List Nat)} (ha : Ev ta σ H (.ref l)) (hl : LD K H l (ws.map kidsD)) : EvT (tTest (tOp (rNeD K) ta (tLst tNil))) σ H (!ws.isEmpty) :=
  et_test (ev_opL (x := .ref l) (xs := []) ha (el_lst ea_nil (by simp)) fun q H1 h1 e1 H2 e2 Q q2 => by
    refine ⟨.list (ws.map kidsD), .list [], (hl.ex (e1.trans e2)).dp, .lst (sq_of (e2 _ _ h1)) .nil, shaped_kids ws, shaped_ints [], ?_⟩
    rw [eqv_listNil, show (ws.map kidsD).isEmpty = ws.isEmpty by cases ws <;> rfl]
    exact q2 H2 (Ex.refl H2))
theorem dpAll_split {K : PySem.W.Frag} {H : Hp} {xs : List V} {ds : List PyData} {d : PyData} (h : DpAll K H xs (ds ++ [d])) : ∃ ys x, xs = ys ++ [x] ∧ DpAll K H ys ds ∧ Dp K H x d := by
  have hl := dpAll_len h
  rw [List.length_append] at hl
  have hl : xs.length = ds.length + 1 := hl
  obtain ⟨x, h1, h2⟩ := dpAll_at' (i := ds.length) (d := d) h (by simp)
  refine ⟨xs.take ds.length, x, ?_, ?_, h2⟩
  · have q1 := List.take_append_drop ds.length xs
    have q2 : xs.drop ds.length = [x] := by
      rw [List.drop_eq_getElem_cons (by omega)]
      have q3 := (List.getElem?_eq_some_iff.mp h1).2
      rw [q3, List.drop_of_length_le (by omega)]
    rw [q2] at q1
    exact q1.symm
  · have q1 := dpAll_take ds.length h
    rw [List.take_left] at q1
    exact q1
theorem flat0 : ∀ n, (List.replicate n [V.int 0]).flatten = (List.replicate n (0 : Int)).map V.int
  | 0 => rfl
  | n + 1 => by rw [List.replicate_succ, List.flatten_cons, flat0 n]; rfl
theorem s_extD {K : PySem.W.Frag} {σ : L2.St} {H : Hp} {D : Ends} {ta tb : TE} {l : Addr} {ds es : List PyData} (hl : LD K H l ds) (ha : Ev ta σ H (.ref l)) (h : EvN K tb σ H es) (hz : ds.length + es.length ≤ 100000) (hn : nlAll (ds ++ es) = true)
    (k : ∀ H1, (∀ B : Hp, Ex B H → B l = none → Ex B H1) → LD K H1 l (ds ++ es) → D.nx σ H1) :
    tDrop (tBM K "list" rExtend ta (tCons tb tNil)) D σ H := ha H (Ex.refl H) _ fun H1 e1 => by
  obtain ⟨xs, h1, h2⟩ := hl
  refine ⟨.inl ⟨rfl, xs, sq_of (e1 l _ h1)⟩, h H1 e1 _ fun b ys H2 _ e2 hb hd => ?_⟩
  have h3 := e2 l _ (e1 l _ h1)
  refine ⟨l, b, xs, ys, rfl, rfl, h3, hb, sz_of (by rw [dpAll_len h2, dpAll_len hd]; exact hz), k _ (fun B eb hb => Ex.mut ((eb.trans e1).trans e2) hb) ⟨_, upd_same, ?_⟩⟩
  exact dpAll_updL h3 _ hn (dpAll_app (dpAll_ex (e1.trans e2) _ h2) hd)
section
variable {K : PySem.W.Frag} {σ : L2.St} {H : Hp} {ta tb tc : TE}
theorem el_rep0 {n : Nat} (h : Ev tb σ H (.int (n : Int))) (hn : n ≤ 1000) : EvL (tOp rRep (tLst (tCons (tC (.int 0)) tNil)) tb) σ H ((List.replicate n (0 : Int)).map V.int) := fun H1 e Q q => by
  have e0 : EvL (tLst (tCons (tC (.int 0)) tNil)) σ H [.int 0] := el_lst (ea_cons ev_c ea_nil) (by simp)
  refine e0 H1 e _ fun z H2 hz e2 hz2 => h H2 (e.trans e2) _ fun H3 e3 => ⟨z, (n : Int), _, rfl, rfl, e3 _ _ hz2, by omega, by omega, ?_, fun p hp => ?_⟩
  · rw [Int.toNat_natCast]
    show 1 * n ≤ sizeLine
    exact sz_of (by omega)
  · have hf0 : (List.replicate (n : Int).toNat [V.int 0]).flatten = (List.replicate n (0 : Int)).map V.int := by
      rw [Int.toNat_natCast]
      exact flat0 n
    rw [hf0]
    exact q p _ (fresh_back (e2.trans e3) hp) ((e2.trans e3).trans (Ex.new hp)) upd_same
theorem q_par3R {D : Ends} {tz : TS} {i j l : Nat} {v : V} {xs : List V} {ds : List PyData} (h1 : EvL ta σ H xs) (h2 : ∀ H1, Ex H H1 → Ev tb σ H1 v) (h3 : ∀ H1, Ex H H1 → EvN K tc σ H1 ds)
    (k : ∀ p q H1, H p = none → H q = none → p ≠ q → Ex H H1 → H1 p = some (.lst xs) → LD K H1 q ds → tz D (((σ.set i (some (.ref p))).set j (some v)).set l (some (.ref q))) H1) : tSeq (tPar3 i j l (tCons ta (tCons tb (tCons tc tNil)))) tz D σ H :=
  h1 H (Ex.refl H) _ fun p H1 hp e1 hH1 => h2 H1 e1 H1 (Ex.refl _) _ fun H2 e2 => h3 H2 (e1.trans e2) H2 (Ex.refl _) _ fun q ys H3 hq e3 hq3 hd3 => ⟨_, _, _, rfl, k p q H3 hp (fresh_back (e1.trans e2) hq) (fun z => by
    rw [← z, e2 _ _ hH1] at hq
    cases hq) ((e1.trans e2).trans e3) (e3 _ _ (e2 _ _ hH1)) ⟨ys, hq3, hd3⟩⟩
end
end WR
set_option Elab.async false
set_option linter.all false
set_option maxRecDepth 100000
set_option maxHeartbeats 2000000
namespace WR
open PySem PySem.Spec PyProof.Rows L2 Evl

theorem q_par2N {K : PySem.W.Frag} {i j : Nat} {ta tb : TE} {tz : TS} {D : Ends} {σ : L2.St} {H : Hp} {ds es : List PyData} (ha : EvN K ta σ H ds) (hb : EvN K tb σ H es)
    (k : ∀ p q H1 xs ys H2, H p = none → Ex H H1 → H1 p = some (.lst xs) → DpAll K H1 xs ds → H1 q = none → Ex H1 H2 → H2 q = some (.lst ys) → DpAll K H2 ys es → tz D ((σ.set i (some (.ref p))).set j (some (.ref q))) H2) :
    tSeq (tPar i j (tCons ta (tCons tb tNil))) tz D σ H :=
  ha H (Ex.refl H) _ fun p xs H1 hp e1 hx hd => hb H1 e1 _ fun q ys H2 hq e2 hy he => ⟨_, _, rfl, k p q H1 xs ys H2 hp e1 hx hd hq e2 hy he⟩
/-! ### _law_all -/
def spAll (K : PySem.W.Frag) : Sp := fun vs H Q _ => ∃ p rs l inner k to, vs = [.ref p, nV k, nV to] ∧ KdAt H p rs (kkOf l inner) ∧ Asc l inner ∧ k < l + inner.length ∧ way (kidsAt l inner) to k ≤ 50000 ∧
  ∀ r H', H r = none → Ex H H' → LD K H' r ((allC (kidsAt l inner) to k).map kidsD) → Q (.ref r) H'
abbrev nAl : List Str := ["_law_kids_here", "_law_kind", "_law_to", "_law_found", "_law_left", "_law_way_here", "_law_child"]
theorem scAl : FnScope nAl ["_law_kids_here", "_law_kind", "_law_to"] (defScope s_law_all) := ⟨rfl, rfl, rfl, by decide +kernel, rfl, by decide +kernel, by decide +kernel⟩
section
variable {P : Program} {w : World} {K : PySem.W.Frag} {mg : Str → Option Value} {base : Heap}
theorem ok_all {f : Addr} {fd : FuncData} (F : Fun K "_law_all" "_law_all" s_law_all f fd) (m5 : mg "sorted" = none) : FnOk P w K mg base CX0 1 f fd ["_law_kids_here", "_law_kind", "_law_to"] (spAll K) := by
  refine F.ok scAl (fun vs H Q E h => ?_) (fun cdv A outer s H vs Q E hr h => ?_)
  · obtain ⟨p, rs, l, inner, k, to, rfl, _⟩ := h
    rfl
  obtain ⟨p, rs, l, inner, k, to, rfl, hK, hA, hk, hB, q⟩ := h
  have hw := hA.raw
  have hu := hr.units
  refine ⟨_, pss_cons (ps_par (i := 3) (j := 4) rfl scAl.nd rfl rfl (by decide) rfl rfl (pa_cons (pe_lst pa_nil) (pa_cons (pe_lst (pa_cons (pe_tup (pa_cons (pv 1) pa_nil)) pa_nil)) pa_nil)) rfl)
    (pss_cons (ps_while PassesOwn.never (pt_cmpR (op_neD hu) (pv 4) (pe_lst pa_nil) (nomark _))
      (pss_cons (ps_set (i := 5) scAl.nd rfl (.inr rfl) (pe_bm0 PySem.F.plainAttrs_list PySem.F.slot_list_pop PySem.F.type_list_pop mt_pop (pv 4)))
      (pss_cons (ps_if (pt_cmpR op_eq (pe_ix (r := rIxT K) ix_tup (pv 5) (pe_un un_neg pe_int) (fun _ _ => rfl)) (pv 2) (nomark _))
        (pss_one (ps_expr (pe_bm PySem.F.plainAttrs_list PySem.F.slot_list_append PySem.F.type_list_append mt_append (pv 3) (pa_cons (pv 5) pa_nil)))) pss_nil)
      (pss_one (ps_expr (pe_bm PySem.F.plainAttrs_list PySem.F.slot_list_extend PySem.F.type_list_extend mt_extend (pv 4) (pa_cons (pe_lc (own := [("_law_child", 6)]) (g := gName 6) (tt := tYes) (te := tOp (rCatA K) (tVar 5) (tTup (tCons (tVar 6) tNil))) rfl scAl.nd
          (pi_list (pe_ix (r := rIxL K) ix_list (pv 0) (pe_ix (r := rIxT K) ix_tup (pv 5) (pe_un un_neg pe_int) (fun _ _ => rfl)) (fun _ _ => rfl))) (blkOk_by (N := nAl) (sc := defScope s_law_all) (by decide +kernel))
          (fun _ _ _ _ _ => pg_name (i := 6) scAl.nd rfl (Or.inl rfl)) (fun _ _ _ _ _ => pts_nil) (fun _ _ _ _ _ => pe_op op_catA (pv 5) (pe_tup (pa_cons (pv 6) pa_nil)))) pa_nil)))))))
    (pss_one (ps_ret (pe_callB (r := rSortP K) (cr_sortP hu) (by rfl) m5 (by decide +kernel) (pa_cons (pv 3) pa_nil))))), ?_⟩
  have h1 := hw.l1
  have h8 := hw.l8
  have h20 := hw.n20
  obtain ⟨n, en⟩ : ∃ n, n = l + inner.length := ⟨_, rfl⟩
  have hkn : (kkOf l inner).length = n := by rw [kkOf_len, en]
  have hdn : ∀ u c, c ∈ kidsAt l inner u → c < u := fun u c h => (kidsAt_lt hw h).2
  have hl30 : ∀ u, (kidsAt l inner u).length ≤ 30 := fun u => kl30 hw
  let S (x3 x4 x5 : Option V) : L2.St := [some (.ref p), some (nV k), some (nV to), x3, x4, x5, none]
  refine q_par2N (K := K) (ds := []) (es := [kidsD [k]]) (ed_lst eda_nil (by simp)) (ed_lst (eda_cons (ed_tup (ds := [natD k]) (eda_cons (ed_i (ev_var rfl)) eda_nil) (by simp)) eda_nil) (by simp)) fun pf pl H1 xs0 xs1 H2 hpf e1 hx0 hd0 hpl e2 hx1 hd1 => ?_
  cases hd0
  have hplH : H pl = none := fresh_back e1 hpl
  have hne : pf ≠ pl := fun z => by
    rw [← z, hx0] at hpl
    cases hpl
  have e02 := e1.trans e2
  show tSeq (tWhile _ _) _ _ (S (some (.ref pf)) (some (.ref pl)) none) H2
  refine q_while (fun m σ' H' => ∃ fs ws x5, σ' = S (some (.ref pf)) (some (.ref pl)) x5 ∧ Ex H H' ∧ LD K H' pf (fs.map kidsD) ∧ LD K H' pl (ws.map kidsD) ∧ Al (kidsAt l inner) n k to fs ws ∧ m = (ws.map fun W => tot (kidsAt l inner) (W.getLastD 0)).sum) _
    ⟨[], [[k]], _, rfl, e02, ⟨[], e2 _ _ hx0, .nil⟩, ⟨xs1, hx1, hd1⟩, Al.start (by omega), rfl⟩ fun m σ' H' hP => ?_
  obtain ⟨fs, ws, x5, rfl, e5, hf5, hL5, hT, rfl⟩ := hP
  refine ⟨!ws.isEmpty, et_neNilD (K := K) (ev_var rfl) hL5, fun hb H6 e6 => ?_, fun hb H6 e6 => ?_⟩
  · rcases List.eq_nil_or_concat ws with rfl | ⟨ws', W, rfl⟩
    · cases hb
    rw [List.concat_eq_append] at hL5 hT ⊢
    have hW := hT.ok W (by simp)
    obtain ⟨u, hu'⟩ : ∃ u, u = W.getLastD 0 := ⟨_, rfl⟩
    have hun : u < n := by rw [hu']; exact hW.lt _ (lastD_mem hW.ne)
    have hWl := hW.len
    have hT2 := hT.step hdn hl30
    have hfew := hT2.few hdn
    refine ⟨fun σ2 H2 => ∃ x5, σ2 = S (some (.ref pf)) (some (.ref pl)) x5 ∧ Ex H H2 ∧ LD K H2 pf ((fs ++ if W.getLastD 0 = to then [W] else []).map kidsD) ∧ LD K H2 pl ((ws' ++ (kidsAt l inner (W.getLastD 0)).map fun c => W ++ [c]).map kidsD), fun σ2 H2 hN => ?_, ?_⟩
    · obtain ⟨z5, a1, a2, a3, a4⟩ := hN
      exact ⟨_, Ht.fall hdn, _, _, z5, a1, a2, a3, a4, hT2, rfl⟩
    obtain ⟨xs, hxs, hdx⟩ := hL5.ex e6
    rw [List.map_append] at hdx
    obtain ⟨ys, y, rfl, hdy, hy⟩ := dpAll_split hdx
    show tSeq (tAsg (tBM0 K "list" rPop (tVar 4)) (gName 5)) _ _ (S (some (.ref pf)) (some (.ref pl)) x5) H6
    refine q_pop (ev_var rfl) hxs fun H7 e7 => ?_
    have e57 := e5.trans (e6.trans e7)
    have hnlw : nlAll (ws'.map kidsD) = true := nl_kidsDs ws'
    have hnlf : nlAll (fs.map kidsD) = true := nl_kidsDs fs
    have e8 : Ex H (upd H7 pl (.lst ys)) := Ex.mut e57 hplH
    have hx7 := e7 _ _ hxs
    have hf8 : LD K (upd H7 pl (.lst ys)) pf (fs.map kidsD) := by
      obtain ⟨zs, a, b⟩ := hf5.ex (e6.trans e7)
      exact ⟨zs, by rw [upd_ne hne]; exact a, dpAll_updL hx7 _ hnlf b⟩
    have hL8 : LD K (upd H7 pl (.lst ys)) pl (ws'.map kidsD) := ⟨ys, upd_same, dpAll_updL hx7 _ hnlw (dpAll_ex e7 _ hdy)⟩
    have hy8 : Dp K (upd H7 pl (.lst ys)) y (kidsD W) := dp_updL hx7 _ (nl_kidsD _) (dp_ex e7 _ hy)
    show tSeq _ _ _ (S (some (.ref pf)) (some (.ref pl)) (some y)) (upd H7 pl (.lst ys))
    generalize upd H7 pl (.lst ys) = H8 at e8 hf8 hL8 hy8 ⊢
    clear hx7 hdx hxs hdy hy e57 hf5 hL5
    have hWk : kidsD W = .tuple (natDs W.dropLast ++ [natD u]) := by
      have e2 := dl_last hW.ne
      show PyData.tuple (natDs W) = _
      congr 1
      conv => lhs; rw [← e2]
      unfold natDs
      rw [List.map_append, hu']
      rfl
    have lastE : ∀ {σ' : L2.St} {H' : Hp}, σ'[5]? = some (some y) → Dp K H' y (kidsD W) → Ev (tOp (rIxT K) (tVar 5) (tUn (rU fun i => .int (-i)) (tC (.int 1)))) σ' H' (nV u) := fun h hy => ev_i (K := K) (ed_last (ds := natDs W.dropLast) (d := natD u) (by rw [← hWk]; exact ed_var h hy))
    -- the stack grows
    have fin : ∀ {D : Ends} (gs : List (List Nat)) H9, Ex H H9 → LD K H9 pf (gs.map kidsD) → LD K H9 pl (ws'.map kidsD) → Dp K H9 y (kidsD W) →
        (∀ H10, Ex H H10 → LD K H10 pf (gs.map kidsD) → LD K H10 pl ((ws' ++ (kidsAt l inner u).map fun c => W ++ [c]).map kidsD) → D.nx (S (some (.ref pf)) (some (.ref pl)) (some y)) H10) →
        tDrop (tBM K "list" rExtend (tVar 4) (tCons (tLc (iList K (tOp (rIxL K) (tVar 0) (tOp (rIxT K) (tVar 5) (tUn (rU fun i => .int (-i)) (tC (.int 1)))))) (gName 6) tYes (tOp (rCatA K) (tVar 5) (tTup (tCons (tVar 6) tNil))) [6]) tNil)) D (S (some (.ref pf)) (some (.ref pl)) (some y)) H9 := fun {D} gs H9 e9 hf9 hL9 hy9 c => by
      have q1 := en_natMap (K := K) (σ := S (some (.ref pf)) (some (.ref pl)) (some y)) (H := H9) (j := 6) (vs := [6]) (ks := kidsAt l inner u) (te := tOp (rCatA K) (tVar 5) (tTup (tCons (tVar 6) tNil))) (fun c => kidsD (W ++ [c]))
        (src_L (tl := tOp (rIxL K) (tVar 0) (tOp (rIxT K) (tVar 5) (tUn (rU fun i => .int (-i)) (tC (.int 1))))) (by
          have q2 := ed_row (K := K) (σ := S (some (.ref pf)) (some (.ref pl)) (some y)) (H := H9) (ta := tVar 0) (tb := tOp (rIxT K) (tVar 5) (tUn (rU fun i => .int (-i)) (tC (.int 1)))) (hK.ex e9) (k := u) (by omega) (ev_var rfl) (lastE rfl hy9)
          rw [rowAt_kk] at q2
          exact q2)) (by have := hl30 u; omega) (fun _ => rfl) (fun c H10 e10 hc => ?_) fun c _ => nl_kidsD _
      · have hll : ws'.length + (kidsAt l inner u).length ≤ 30 * (n + 1) := by
          obtain ⟨b, hb⟩ := hT2.stk
          have := hb.len
          rw [List.length_map, List.length_append, List.length_map, ← hu'] at this
          have h3 : 30 * (n + 1 - b) ≤ 30 * (n + 1) := Nat.mul_le_mul_left _ (by omega)
          omega
        refine s_extD (K := K) hL9 (ev_var rfl) q1 (by rw [List.length_map, List.length_map]; omega) (nlAll_app hnlw (nlAll_mem fun d hd => ?_)) fun H10 a10 hL10 => ?_
        · obtain ⟨c, _, rfl⟩ := List.mem_map.mp hd
          exact nl_kidsD _
        · refine c H10 (a10 _ e9 hplH) ?_ ?_
          · obtain ⟨zs, z1, z2⟩ := hf9
            obtain ⟨ls, l1, _⟩ := hL9
            have ee := a10 (rem H9 pl) rem_ex rem_self
            exact ⟨zs, ee _ _ (by rw [rem_ne hne]; exact z1), dpAll_ex ee _ (dpAll_rem l1 _ (nl_kidsDs gs) z2)⟩
          · rw [List.map_append, List.map_map]
            exact hL10
      · have e0 := ed_cat (K := K) (σ := (wipe (S (some (.ref pf)) (some (.ref pl)) (some y)) [6]).set 6 (some (nV c))) (H := H10) (ds := natDs W) (es := [natD c]) (ed_var (i := 5) rfl (dp_ex e10 _ hy9)) (ed_tup (eda_cons (ed_i (ev_var (i := 6) rfl)) eda_nil) (by simp)) (by unfold natDs; rw [List.length_map, List.length_singleton]; omega)
        have e1 : natDs W ++ [natD c] = natDs (W ++ [c]) := by
          unfold natDs
          rw [List.map_append]
          rfl
        rw [e1] at e0
        exact e0
    refine q_if (b := decide (u = to)) (et_test (ev_is (ev_op (lastE rfl hy8) (ev_var rfl) (rv_eq rfl)) ?_)) (fun hb H9 e9 => ?_) fun hb H9 e9 => ?_
    · show V.bl (decide (V.int (u : Int) = V.int (to : Int))) = _
      rw [dec_int]
      congr 1
      exact decide_eq_decide.mpr (by omega)
    · have hb := of_decide_eq_true hb
      have hb2 : W.getLastD 0 = to := by rw [← hu']; exact hb
      rw [if_pos hb2] at hfew ⊢
      have hyd := dp_ex e9 _ hy8
      rw [List.length_append, List.length_singleton] at hfew
      refine s_appD (K := K) (d := kidsD W) (hf8.ex e9) (ev_var rfl) (ed_var rfl hyd) (by rw [List.length_map]; omega) hnlf (nl_kidsD _) fun H10 b10 hf10 => ?_
      have hL9 := hL8.ex e9
      obtain ⟨zs, hz, _⟩ := hf8.ex e9
      have e10 : Ex (rem H9 pf) H10 := b10 _ rem_ex rem_self
      have hL10 : LD K H10 pl (ws'.map kidsD) := by
        obtain ⟨ls, l1, l2⟩ := hL9
        exact ⟨ls, e10 _ _ (by rw [rem_ne (Ne.symm hne)]; exact l1), dpAll_ex e10 _ (dpAll_rem hz _ hnlw l2)⟩
      have hy10 : Dp K H10 y (kidsD W) := dp_ex e10 _ (dp_rem hz _ (nl_kidsD _) hyd)
      refine fin (fs ++ [W]) H10 (b10 _ (e8.trans e9) hpf) (by rw [List.map_append]; exact hf10) hL10 hy10 fun H12 e12 hf12 hL12 => ⟨_, rfl, e12, hf12, ?_⟩
      rw [← hu']
      exact hL12
    · have hb := of_decide_eq_false hb
      have hb2 : ¬ W.getLastD 0 = to := by rw [← hu']; exact hb
      rw [if_neg hb2, List.append_nil]
      refine fin fs H9 (e8.trans e9) (hf8.ex e9) (hL8.ex e9) (dp_ex e9 _ hy8) fun H12 e12 hf12 hL12 => ⟨_, rfl, e12, hf12, ?_⟩
      rw [← hu']
      exact hL12
  · have : ws = [] := by
      cases ws with
      | nil => rfl
      | cons _ _ => cases hb
    subst this
    have hfew := hT.few hdn
    have hdone := hT.done hdn hA.at
    have hfs : fs.map kidsD = (fs.map prW).map encP := by
      rw [List.map_map]
      exact List.map_congr_left fun W hW => (enc_prW (hT.okf W hW).ne).symm
    have hf6 := (hf5.ex e6).dp
    rw [hfs] at hf6
    have hen := en_sortP (K := K) (σ := S (some (.ref pf)) (some (.ref pl)) x5) (H := H6) (te := tVar 3) (bs := fs.map prW) (ed_var rfl hf6) (by rw [List.length_map]; omega)
    rw [hdone] at hen
    refine hen H6 (Ex.refl _) _ fun r xs H7 hr7 e7 hx7 hd7 => q r H7 (fresh_back (e5.trans e6) hr7) ((e5.trans e6).trans e7) ⟨xs, hx7, hd7⟩
end
end WR
-- auto
set_option Elab.async false
set_option linter.all false
set_option maxRecDepth 100000
set_option maxHeartbeats 1000000
namespace WR
open PySem PySem.Spec PyProof.Rows L2 Evl

/-! ### rows -/
theorem ev_sumI {K : PySem.W.Frag} {σ : L2.St} {H : Hp} {te : TE} {ns : List Int} (h : EvN K te σ H (ns.map PyData.int)) : Ev (tCB (rSum K) (tCons te tNil)) σ H (.int ns.sum) := fun H1 e Q q =>
  h H1 e _ fun p xs H2 hp e2 hx hd => by
    rw [ints_of hd] at hx
    exact ⟨p, ns, rfl, sq_of hx, q H2 e2⟩
theorem fm_natsJ {f : PyData → Option PyData} {g : Nat → Int} {ks : List Nat} (h : ∀ c ∈ ks, f (natD c) = some (.int (g c))) : (natDs ks).filterMap f = (ks.map g).map PyData.int := by
  unfold natDs
  rw [List.filterMap_map, List.map_map]
  exact fm_map fun c hc => h c hc
def rowI (l : Nat) (inner : List (List Nat)) (k : Nat) : List Int := (List.range l).map fun x => way (kidsAt l inner) x k
def rowD (l : Nat) (inner : List (List Nat)) (k : Nat) : PyData := tupI (rowI l inner k)
def rowsD (l : Nat) (inner : List (List Nat)) (n : Nat) : List PyData := (List.range n).map (rowD l inner)
theorem rowsD_succ {l n : Nat} {inner : List (List Nat)} : rowsD l inner (n + 1) = rowsD l inner n ++ [rowD l inner n] := by
  unfold rowsD
  rw [List.range_succ, List.map_append]
  rfl
theorem rowsD_at {l n k : Nat} {inner : List (List Nat)} (h : k < n) : (rowsD l inner n)[k]? = some (rowD l inner k) := by
  unfold rowsD
  rw [List.getElem?_map, List.getElem?_range h]
  rfl
theorem nl_rowsD {l n : Nat} {inner : List (List Nat)} : nlAll (rowsD l inner n) = true := nlAll_mem fun d hd => by
  obtain ⟨k, _, rfl⟩ := List.mem_map.mp hd
  exact nl_tupI _
theorem rowI_at {l k x : Nat} {inner : List (List Nat)} (h : x < l) : ((rowI l inner k).map PyData.int)[x]? = some (.int (way (kidsAt l inner) x k)) := by
  unfold rowI
  rw [List.getElem?_map, List.getElem?_map, List.getElem?_range h]
  rfl
theorem way_leaf {l k x : Nat} {inner : List (List Nat)} (h : k < l) : way (kidsAt l inner) x k = if x = k then 1 else 0 := by
  rw [way_rec (fun c hc => by rw [show kidsAt l inner k = [] from if_pos h] at hc; cases hc), show kidsAt l inner k = [] from if_pos h]
  by_cases z : k = x
  · rw [if_pos z, if_pos z.symm]
    rfl
  · rw [if_neg z, if_neg (Ne.symm z)]
    rfl
/-- the row of a leaf -/
def spLeafRow (K : PySem.W.Frag) : Sp := fun vs H Q _ => ∃ l x : Nat, vs = [nV l, nV x] ∧ l ≤ 1000 ∧ ∀ r H', Ex H H' → Dp K H' r (tupI ((List.range l).map fun a => if a = x then 1 else 0)) → Q r H'
end WR
set_option Elab.async false
set_option linter.all false
set_option maxRecDepth 100000
set_option maxHeartbeats 1000000
namespace WR
open PySem PySem.Spec PyProof.Rows L2 Evl

/-! ### how many ways there may be -/
def tsum (w : Nat → Int) (p : Nat → Bool) (n : Nat) : Int := (((List.range n).filter p).map w).sum
theorem tsum_succ {w : Nat → Int} {p : Nat → Bool} {n : Nat} : tsum w p (n + 1) = tsum w p n + if p n = true then w n else 0 := by
  unfold tsum
  rw [List.range_succ, List.filter_append, List.map_append, List.sum_append, List.filter_cons]
  by_cases h : p n = true
  · rw [if_pos h, if_pos h]
    simp
  · rw [if_neg h, if_neg h]
    simp
theorem fil_split {w : Nat → Int} {q : Nat → Bool} : ∀ ks : List Nat, (ks.map w).sum = ((ks.filter q).map w).sum + ((ks.filter fun c => !q c).map w).sum
  | [] => rfl
  | k :: ks => by
    have ih := fil_split (w := w) (q := q) ks
    rw [List.filter_cons, List.filter_cons, List.map_cons, List.sum_cons]
    cases h : q k with
    | true => simp only [Bool.not_true, if_true, Bool.false_eq_true, if_false, List.map_cons, List.sum_cons]; omega
    | false => simp only [Bool.not_false, if_true, Bool.false_eq_true, if_false, List.map_cons, List.sum_cons]; omega
theorem wsum_perm {w : Nat → Int} {a b : List Nat} (h : a.Perm b) : (a.map w).sum = (b.map w).sum := by
  induction h with
  | nil => rfl
  | cons x _ ih => simp only [List.map_cons, List.sum_cons, ih]
  | swap x y l => simp only [List.map_cons, List.sum_cons]; omega
  | trans _ _ h1 h2 => exact h1.trans h2
theorem wsum_nn {w : Nat → Int} (hw : ∀ c, 0 ≤ w c) : ∀ ks : List Nat, 0 ≤ (ks.map w).sum
  | [] => Int.le_refl _
  | k :: ks => by
    have := wsum_nn hw ks
    have := hw k
    simp only [List.map_cons, List.sum_cons]
    omega
theorem wsum_sub {w : Nat → Int} (hw : ∀ c, 0 ≤ w c) : ∀ {a b : List Nat}, a.Nodup → (∀ c ∈ a, c ∈ b) → (a.map w).sum ≤ (b.map w).sum
  | [], b, _, _ => wsum_nn hw b
  | x :: a, b, hn, hs => by
    rw [List.nodup_cons] at hn
    have hp := List.perm_cons_erase (hs x (List.mem_cons_self ..))
    rw [wsum_perm hp]
    simp only [List.map_cons, List.sum_cons]
    have := wsum_sub hw (a := a) (b := b.erase x) hn.2 fun c hc => (List.mem_erase_of_ne fun z => hn.1 (by rw [← z]; exact hc)).mpr (hs c (List.mem_cons_of_mem _ hc))
    omega
section
variable {l : Nat} {inner : List (List Nat)} (W : WebP l inner)
include W
def plB (l : Nat) (inner : List (List Nat)) (c : Nat) : Bool := decide ((parsAt l inner c).length ≤ 1)
def opB (l : Nat) (inner : List (List Nat)) (n c : Nat) : Bool := (parsAt l inner c).all fun u => decide (n ≤ u)
def pB (l : Nat) (inner : List (List Nat)) (n c : Nat) : Bool := plB l inner c && opB l inner n c
def mB (l : Nat) (inner : List (List Nat)) (c : Nat) : Bool := !plB l inner c
theorem kids_nd {u : Nat} : (kidsAt l inner u).Nodup := by
  by_cases z : u < l
  · rw [kidsAt_leaf z]
    exact List.nodup_nil
  · by_cases y : u < l + inner.length
    · exact W.nd _ (kidsAt_inner (by omega) y)
    · unfold kidsAt
      rw [if_neg z, List.getD_eq_getElem?_getD, List.getElem?_eq_none (by omega)]
      exact List.nodup_nil
theorem op_succ {n c : Nat} (hn : n < l + inner.length) : opB l inner (n + 1) c = (opB l inner n c && !decide (c ∈ kidsAt l inner n)) := by
  unfold opB
  by_cases z : c ∈ kidsAt l inner n
  · rw [decide_eq_true z, Bool.not_true, Bool.and_false]
    refine Bool.eq_false_iff.mpr fun h => ?_
    have := of_decide_eq_true (List.all_eq_true.mp h n (mem_pars.mpr ⟨hn, z⟩))
    omega
  · rw [decide_eq_false z, Bool.not_false, Bool.and_true, Bool.eq_iff_iff, List.all_eq_true, List.all_eq_true]
    constructor
    · intro h u hu
      have := of_decide_eq_true (h u hu)
      exact decide_eq_true (by omega)
    · intro h u hu
      have h1 := of_decide_eq_true (h u hu)
      have h2 : u ≠ n := fun y => z (by
        have := (mem_pars.mp hu).2
        rw [y] at this
        exact this)
      exact decide_eq_true (by omega)
/-- a plain child has this parent alone -/
theorem plain_op {n c : Nat} (hn : n < l + inner.length) (hc : c ∈ kidsAt l inner n) (hp : plB l inner c = true) : opB l inner n c = true := by
  have hp := of_decide_eq_true hp
  have hm : n ∈ parsAt l inner c := mem_pars.mpr ⟨hn, hc⟩
  unfold opB
  rw [List.all_eq_true]
  intro u hu
  have : u = n := by
    cases e : parsAt l inner c with
    | nil =>
      rw [e] at hm
      cases hm
    | cons a r =>
      rw [e] at hp hm hu
      have hr : r = [] := List.length_eq_zero_iff.mp (by rw [List.length_cons] at hp; omega)
      subst hr
      rw [List.mem_singleton.mp hm, List.mem_singleton.mp hu]
  exact decide_eq_true (by omega)
variable {x : Nat} (hx : x < l)
include hx
theorem pot_step {n : Nat} (h1 : l ≤ n) (hn : n < l + inner.length) :
    3 * (2 * tsum (way (kidsAt l inner) x) (pB l inner (n + 1)) (n + 1) + 3 * tsum (way (kidsAt l inner) x) (mB l inner) (n + 1)) ≤ 5 * (2 * tsum (way (kidsAt l inner) x) (pB l inner n) n + 3 * tsum (way (kidsAt l inner) x) (mB l inner) n) := by
  have hd : ∀ u c, c ∈ kidsAt l inner u → c < u := fun u c h => (kidsAt_lt W.raw h).2
  have hw : ∀ c, 0 ≤ way (kidsAt l inner) x c := fun c => way_nn hd c
  obtain ⟨w, ew⟩ : ∃ w, w = way (kidsAt l inner) x := ⟨_, rfl⟩
  have hwn : w n = ((kidsAt l inner n).map w).sum := by
    rw [ew, way_rec (hd n), if_neg (by omega), Int.add_zero]
  rw [← ew] at hw ⊢
  have hnd := kids_nd W (u := n)
  -- the children, plain and mixings
  have hsp := fil_split (w := w) (q := plB l inner) (kidsAt l inner n)
  have hM : (((kidsAt l inner n).filter fun c => !plB l inner c).map w).sum ≤ tsum w (mB l inner) n := wsum_sub hw (hnd.sublist List.filter_sublist) fun c hc => by
    obtain ⟨a, b⟩ := List.mem_filter.mp hc
    exact List.mem_filter.mpr ⟨List.mem_range.mpr (hd n c a), b⟩
  -- what was open ahead
  have hP : tsum w (pB l inner n) n = tsum w (pB l inner (n + 1)) n + (((kidsAt l inner n).filter (plB l inner)).map w).sum := by
    unfold tsum
    rw [fil_split (q := fun c => !decide (c ∈ kidsAt l inner n)), List.filter_filter, List.filter_filter]
    congr 1
    · congr 2
      refine List.filter_congr fun c _ => ?_
      unfold pB
      rw [op_succ W hn]
      cases plB l inner c <;> cases opB l inner n c <;> cases decide (c ∈ kidsAt l inner n) <;> rfl
    · refine wsum_perm ((List.perm_ext_iff_of_nodup (List.nodup_range.sublist List.filter_sublist) (hnd.sublist List.filter_sublist)).mpr fun c => ?_)
      rw [List.mem_filter, List.mem_filter, List.mem_range]
      constructor
      · rintro ⟨a, b⟩
        rw [Bool.and_eq_true, Bool.not_not] at b
        exact ⟨of_decide_eq_true b.1, (Bool.and_eq_true_iff.mp b.2).1⟩
      · rintro ⟨a, b⟩
        refine ⟨hd n c a, ?_⟩
        rw [Bool.and_eq_true, Bool.not_not]
        exact ⟨decide_eq_true a, Bool.and_eq_true_iff.mpr ⟨b, plain_op W hn a b⟩⟩
  have hnn : opB l inner (n + 1) n = true := by
    unfold opB
    rw [List.all_eq_true]
    intro u hu
    have := hd u n (mem_pars.mp hu).2
    exact decide_eq_true (by omega)
  have hP0 : 0 ≤ tsum w (pB l inner (n + 1)) n := wsum_nn hw _
  have hM0 : 0 ≤ tsum w (mB l inner) n := wsum_nn hw _
  have hK0 : 0 ≤ (((kidsAt l inner n).filter (plB l inner)).map w).sum := wsum_nn hw _
  rw [tsum_succ, tsum_succ]
  have hpb : pB l inner (n + 1) n = plB l inner n := by
    unfold pB
    rw [hnn, Bool.and_true]
  rw [hpb]
  unfold mB at hM hM0 ⊢
  cases hpl : plB l inner n with
  | true =>
    simp only [if_true, Bool.not_true, Bool.false_eq_true, if_false]
    omega
  | false =>
    simp only [if_true, Bool.not_false, Bool.false_eq_true, if_false]
    -- a mixing has one child, a plain one
    have hmix : (kidsAt l inner n).length = 1 := W.mix n hn (by
      have := of_decide_eq_false hpl
      omega)
    obtain ⟨c, hc, hc1⟩ := W.bare n h1 hn
    have hks : kidsAt l inner n = [c] := by
      cases e : kidsAt l inner n with
      | nil =>
        rw [e] at hc
        cases hc
      | cons a r =>
        rw [e] at hmix hc
        have hr : r = [] := List.length_eq_zero_iff.mp (by rw [List.length_cons] at hmix; omega)
        subst hr
        rw [List.mem_singleton.mp hc]
    have hz : (((kidsAt l inner n).filter fun c => !plB l inner c).map w).sum = 0 := by
      rw [hks, List.filter_cons]
      have : plB l inner c = true := decide_eq_true hc1
      rw [this]
      rfl
    omega
theorem pot_le : ∀ j, l + j ≤ l + inner.length → (3 ^ j : Nat) * (2 * tsum (way (kidsAt l inner) x) (pB l inner (l + j)) (l + j) + 3 * tsum (way (kidsAt l inner) x) (mB l inner) (l + j)) ≤ (2 * 5 ^ j : Nat)
  | 0, _ => by
    have hlf : ∀ k, k < l → way (kidsAt l inner) x k = if x = k then 1 else 0 := fun k hk => way_leaf hk
    have hpl : ∀ c, c < l → plB l inner c = true := fun c hc => decide_eq_true (W.lf1 c hc)
    have hop : ∀ c, c < l → opB l inner l c = true := fun c hc => by
      unfold opB
      rw [List.all_eq_true]
      intro u hu
      refine decide_eq_true (Classical.byContradiction fun z => ?_)
      have := (mem_pars.mp hu).2
      rw [kidsAt_leaf (by omega)] at this
      cases this
    have h1 : tsum (way (kidsAt l inner) x) (pB l inner l) l = 1 := by
      unfold tsum
      have e : (List.range l).filter (pB l inner l) = List.range l := List.filter_eq_self.mpr fun c hc => by
        have := List.mem_range.mp hc
        unfold pB
        rw [hpl c this, hop c this]
        rfl
      rw [e, List.map_congr_left fun k hk => hlf k (List.mem_range.mp hk)]
      have e2 : ∀ m, ((List.range m).map fun k => if x = k then (1 : Int) else 0).sum = if x < m then 1 else 0 := fun m => by
        induction m with
        | zero => rfl
        | succ m ih =>
          rw [List.range_succ, List.map_append, List.sum_append, ih]
          simp only [List.map_cons, List.map_nil, List.sum_cons, List.sum_nil]
          by_cases a : x = m
          · rw [if_pos a, if_neg (by omega), if_pos (by omega)]
            rfl
          · by_cases b : x < m
            · rw [if_pos b, if_neg a, if_pos (by omega)]
              rfl
            · rw [if_neg b, if_neg a, if_neg (by omega)]
              rfl
      rw [e2, if_pos hx]
    have h2 : tsum (way (kidsAt l inner) x) (mB l inner) l = 0 := by
      unfold tsum
      have e : (List.range l).filter (mB l inner) = [] := List.filter_eq_nil_iff.mpr fun c hc z => by
        unfold mB at z
        rw [hpl c (List.mem_range.mp hc)] at z
        cases z
      rw [e]
      rfl
    rw [Nat.add_zero, h1, h2]
    decide
  | j + 1, h => by
    have ih := pot_le j (by omega)
    have hs := pot_step W hx (n := l + j) (by omega) (by omega)
    rw [show l + (j + 1) = l + j + 1 by omega]
    generalize 2 * tsum (way (kidsAt l inner) x) (pB l inner (l + j + 1)) (l + j + 1) + 3 * tsum (way (kidsAt l inner) x) (mB l inner) (l + j + 1) = A at hs ⊢
    generalize 2 * tsum (way (kidsAt l inner) x) (pB l inner (l + j)) (l + j) + 3 * tsum (way (kidsAt l inner) x) (mB l inner) (l + j) = B at hs ih
    have e1 : (((3 ^ (j + 1) : Nat) : Int)) = (3 ^ j : Nat) * 3 := by rw [Nat.pow_succ]; simp
    have e2 : (((2 * 5 ^ (j + 1) : Nat) : Int)) = (2 * 5 ^ j : Nat) * 5 := by rw [Nat.pow_succ]; simp; omega
    rw [e1, e2, Int.mul_assoc]
    have h3 : ((3 ^ j : Nat) : Int) * (3 * A) ≤ (3 ^ j : Nat) * (5 * B) := Int.mul_le_mul_of_nonneg_left hs (Int.natCast_nonneg _)
    have h4 : ((3 ^ j : Nat) : Int) * (5 * B) = ((3 ^ j : Nat) * B) * 5 := by rw [Int.mul_left_comm, Int.mul_comm 5]
    rw [h4] at h3
    omega
theorem way_leaf_few {k : Nat} (hk : k < l + inner.length) : way (kidsAt l inner) x k ≤ 27400 := by
  have hd : ∀ u c, c ∈ kidsAt l inner u → c < u := fun u c h => (kidsAt_lt W.raw h).2
  have hw : ∀ c, 0 ≤ way (kidsAt l inner) x c := fun c => way_nn hd c
  by_cases z : k < l
  · rw [way_leaf z]
    split <;> omega
  obtain ⟨j, rfl⟩ : ∃ j, k = l + j := ⟨k - l, by omega⟩
  have h20 := W.raw.n20
  have hp := pot_le W hx (j + 1) (by omega)
  rw [show l + (j + 1) = l + j + 1 by omega, tsum_succ, tsum_succ] at hp
  have hP0 : 0 ≤ tsum (way (kidsAt l inner) x) (pB l inner (l + j + 1)) (l + j) := wsum_nn hw _
  have hM0 : 0 ≤ tsum (way (kidsAt l inner) x) (mB l inner) (l + j) := wsum_nn hw _
  have hnn : opB l inner (l + j + 1) (l + j) = true := by
    unfold opB
    rw [List.all_eq_true]
    intro u hu
    have := hd u (l + j) (mem_pars.mp hu).2
    exact decide_eq_true (by omega)
  have hge : 2 * way (kidsAt l inner) x (l + j) ≤ 2 * (tsum (way (kidsAt l inner) x) (pB l inner (l + j + 1)) (l + j) + if pB l inner (l + j + 1) (l + j) = true then way (kidsAt l inner) x (l + j) else 0) + 3 * (tsum (way (kidsAt l inner) x) (mB l inner) (l + j) + if mB l inner (l + j) = true then way (kidsAt l inner) x (l + j) else 0) := by
    have hpb : pB l inner (l + j + 1) (l + j) = plB l inner (l + j) := by
      unfold pB
      rw [hnn, Bool.and_true]
    have := hw (l + j)
    rw [hpb]
    unfold mB at hM0 ⊢
    cases plB l inner (l + j) with
    | true => simp only [if_true, Bool.not_true, Bool.false_eq_true, if_false]; omega
    | false => simp only [if_true, Bool.not_false, Bool.false_eq_true, if_false]; omega
  have h3 : ((3 ^ (j + 1) : Nat) : Int) * (2 * way (kidsAt l inner) x (l + j)) ≤ (2 * 5 ^ (j + 1) : Nat) := Int.le_trans (Int.mul_le_mul_of_nonneg_left hge (Int.natCast_nonneg _)) hp
  have key : ∀ m, m ≤ 20 → 5 ^ m ≤ 27400 * 3 ^ m := by decide
  have hkey := key (j + 1) (by omega)
  have hpos : 0 < 3 ^ (j + 1) := Nat.pow_pos (by decide)
  generalize 3 ^ (j + 1) = a at h3 hkey hpos
  generalize 5 ^ (j + 1) = b at h3 hkey
  generalize way (kidsAt l inner) x (l + j) = y at h3 ⊢
  refine Classical.byContradiction fun q => ?_
  have h5 : (a : Int) * (2 * 27401) ≤ (a : Int) * (2 * y) := Int.mul_le_mul_of_nonneg_left (by omega) (Int.natCast_nonneg _)
  have h6 : ((2 * b : Nat) : Int) ≤ ((2 * (27400 * a) : Nat) : Int) := Int.ofNat_le.mpr (by omega)
  have h7 : (a : Int) * (2 * 27401) = 54802 * a := by omega
  have h8 : ((2 * (27400 * a) : Nat) : Int) = 54800 * a := by omega
  have ha : (0 : Int) < a := by omega
  omega
end
section
variable {l : Nat} {inner : List (List Nat)} (W : WebP l inner)
include W
theorem some_leaf : ∀ {u : Nat}, u < l + inner.length → ∃ x, x < l ∧ 1 ≤ way (kidsAt l inner) x u := fun {u} => by
  have hd : ∀ u c, c ∈ kidsAt l inner u → c < u := fun u c h => (kidsAt_lt W.raw h).2
  induction u using Nat.strongRecOn with
  | ind u ih =>
    intro hu
    by_cases z : u < l
    · refine ⟨u, z, ?_⟩
      rw [way_leaf z, if_pos rfl]
      exact Int.le_refl _
    · obtain ⟨c, hc, _⟩ := W.bare u (by omega) hu
      obtain ⟨x, hx, h1⟩ := ih c (hd u c hc) (by have := hd u c hc; omega)
      refine ⟨x, hx, ?_⟩
      rw [way_rec (hd u), if_neg (by omega), Int.add_zero]
      have := wsum_sub (w := way (kidsAt l inner) x) (fun c => way_nn hd c) (a := [c]) (b := kidsAt l inner u) (by simp) fun y hy => by
        rw [List.mem_singleton.mp hy]
        exact hc
      simp only [List.map_cons, List.map_nil, List.sum_cons, List.sum_nil] at this
      omega
theorem way_via {t x : Nat} (hx : 1 ≤ way (kidsAt l inner) x t) : ∀ k, way (kidsAt l inner) t k ≤ way (kidsAt l inner) x k := fun k => by
  have hd : ∀ u c, c ∈ kidsAt l inner u → c < u := fun u c h => (kidsAt_lt W.raw h).2
  induction k using Nat.strongRecOn with
  | ind k ih =>
    rw [way_rec (to := t) (hd k)]
    by_cases z : k = t
    · subst z
      rw [if_pos rfl]
      have hz : ∀ c ∈ kidsAt l inner k, way (kidsAt l inner) k c = 0 := fun c hc => by
        have hlt := hd k c hc
        clear hx ih
        have hab : ∀ m, m < k → way (kidsAt l inner) k m = 0 := fun m => by
          induction m using Nat.strongRecOn with
          | ind m ihm =>
            intro hm
            rw [way_rec (hd m), if_neg (by omega), Int.add_zero]
            rw [List.map_congr_left fun c hc => ihm c (hd m c hc) (by have := hd m c hc; omega)]
            generalize kidsAt l inner m = ks
            induction ks with
            | nil => rfl
            | cons a r ih2 => simp only [List.map_cons, List.sum_cons, ih2]; rfl
        exact hab c hlt
      rw [List.map_congr_left hz]
      have : ((kidsAt l inner k).map fun _ => (0 : Int)).sum = 0 := by
        generalize kidsAt l inner k = ks
        induction ks with
        | nil => rfl
        | cons a r ih2 => simp only [List.map_cons, List.sum_cons, ih2]; rfl
      rw [this]
      omega
    · rw [if_neg z, Int.add_zero, way_rec (to := x) (hd k)]
      have hle : ∀ ks : List Nat, (∀ c ∈ ks, c < k) → (ks.map (way (kidsAt l inner) t)).sum ≤ (ks.map (way (kidsAt l inner) x)).sum := fun ks => by
        induction ks with
        | nil => exact fun _ => Int.le_refl _
        | cons a r ih2 =>
          intro h
          have h1 := ih a (h a (List.mem_cons_self ..))
          have h2 := ih2 fun c hc => h c (List.mem_cons_of_mem _ hc)
          simp only [List.map_cons, List.sum_cons]
          omega
      have := hle (kidsAt l inner k) fun c hc => hd k c hc
      split <;> omega
theorem way_few {t k : Nat} (ht : t < l + inner.length) (hk : k < l + inner.length) : way (kidsAt l inner) t k ≤ 27400 := by
  obtain ⟨x, hx, h1⟩ := some_leaf W ht
  exact Int.le_trans (way_via W h1 k) (way_leaf_few W hx hk)
theorem WebP.ascS : Asc l inner := ⟨W.raw, fun ks hks => by
  have h1 := W.asc ks hks
  have h2 := W.nd ks hks
  exact List.Pairwise.imp₂ (fun a b (x : a ≤ b) (y : a ≠ b) => by omega) h1 h2⟩
end
end WR
set_option Elab.async false
set_option linter.all false
set_option maxRecDepth 100000
set_option maxHeartbeats 2000000
namespace WR
open PySem PySem.Spec PyProof.Rows L2 Evl

/-! ### _law_due: the number of a way by the list of all -/
theorem room65 {k : Nat} {A : Around} (r : Room k A) : A.units + 65 < cLine := by
  have := r.un
  omega
theorem eqv_tupNil : ∀ ds : List PyData, PyData.eqv (.tuple ds) (.tuple []) = ds.isEmpty
  | [] => by simp [PyData.eqv, PyData.eqvAll]
  | _ :: _ => by simp [PyData.eqv, PyData.eqvAll]
theorem eqv_kids (a b : List Nat) : PyData.eqv (kidsD a) (kidsD b) = decide (a = b) := by
  rw [kidsD_tupI, kidsD_tupI, eqv_tupI]
  refine decide_eq_decide.mpr ⟨fun h => ?_, fun h => by rw [h]⟩
  have := congrArg (List.map Int.toNat) h
  rw [List.map_map, List.map_map] at this
  have e : ∀ w : List Nat, w.map (Int.toNat ∘ fun (k : Nat) => (k : Int)) = w := fun w => List.map_id'' (fun c => Int.toNat_natCast c) w
  rw [e, e] at this
  exact this
section
variable {K : PySem.W.Frag} {σ : L2.St} {H : Hp} {te ta tb : TE} {ds : List PyData}
theorem et_neNilS (h : EvD K te σ H (.list ds)) (hs : SeqAt.shaped (.list ds) = true) : EvT (tTest (tOp (rNeD K) te (tLst tNil))) σ H (!ds.isEmpty) :=
  et_test fun H1 e Q q => h H1 e _ fun v H2 e2 hv => ⟨by show 0 ≤ sizeLine; decide, fun p hp => ⟨.list ds, .list [], dp_ex (Ex.new hp) (.list ds) hv, .lst (sq_of upd_same) .nil, hs, shaped_ints [], by
    rw [eqv_listNil]
    exact q _ (e2.trans (Ex.new hp))⟩⟩
theorem et_eqNilS (h : EvD K te σ H (.tuple ds)) (hs : SeqAt.shaped (.tuple ds) = true) : EvT (tTest (tOp (rEqD K) te (tTup tNil))) σ H ds.isEmpty :=
  et_test fun H1 e Q q => h H1 e _ fun v H2 e2 hv => ⟨by show 0 ≤ sizeLine; decide, fun p hp => ⟨.tuple ds, .tuple [], dp_ex (Ex.new hp) (.tuple ds) hv, .tup (st_of upd_same) .nil, hs, shapedT_nats [], by
    rw [eqv_tupNil]
    exact q _ (e2.trans (Ex.new hp))⟩⟩
/-- W in ways -/
theorem et_inW {W : List Nat} {ws : List (List Nat)} (h1 : EvD K ta σ H (kidsD W)) (h2 : EvD K tb σ H (.list (ws.map kidsD))) : EvT (tTest (tOp (rInD K) ta tb)) σ H (decide (W ∈ ws)) :=
  et_test fun H1 e Q q => h1 H1 e _ fun v H2 e2 hv => h2 H2 (e.trans e2) _ fun w H3 e3 hw => ⟨kidsD W, ws.map kidsD, dp_ex e3 _ hv, hw, shapedT_nats W, shaped_kids ws, by
    have : ((ws.map kidsD).any fun z => PyData.eqv z (kidsD W)) = decide (W ∈ ws) := by
      rw [Bool.eq_iff_iff, List.any_map, List.any_eq_true, decide_eq_true_eq]
      constructor
      · rintro ⟨x, hx, hy⟩
        have hy : PyData.eqv (kidsD x) (kidsD W) = true := hy
        rw [eqv_kids, decide_eq_true_eq] at hy
        rw [← hy]
        exact hx
      · intro hx
        exact ⟨W, hx, by show PyData.eqv (kidsD W) (kidsD W) = true; rw [eqv_kids]; exact decide_eq_true rfl⟩
    rw [this]
    exact q _ (e2.trans e3)⟩
/-- ways.index(W) -/
theorem ev_indexK {W : List Nat} {ws : List (List Nat)} {j : Nat} (h1 : EvD K ta σ H (.list (ws.map kidsD))) (h2 : EvD K tb σ H (kidsD W)) (hn : ws.Nodup) (hj : ws[j]? = some W) : Ev (tBM K "list" (rIndexD K) ta (tCons tb tNil)) σ H (nV j) := fun H1 e Q q =>
  h1 H1 e _ fun v H2 e2 hv => by
    obtain ⟨a, xs, rfl, hs, hd⟩ := dp_lst hv
    refine ⟨.inl ⟨rfl, xs, hs⟩, h2 H2 (e.trans e2) _ fun w H3 e3 hw => ?_⟩
    refine ⟨a, w, kidsD W, ws.map kidsD, j, kidsD W, rfl, rfl, dp_ex e3 (.list (ws.map kidsD)) (.lst hs hd), hw, shaped_kids ws, shapedT_nats W, by rw [List.getElem?_map, hj]; rfl, by rw [eqv_kids]; exact decide_eq_true rfl, fun m z' hm hz => ?_, q _ (e2.trans e3)⟩
    rw [List.getElem?_map] at hz
    obtain ⟨x, hx, rfl⟩ := Option.map_eq_some_iff.mp hz
    rw [eqv_kids]
    refine decide_eq_false fun z => ?_
    subst z
    have hjl := (List.getElem?_eq_some_iff.mp hj).1
    have := (List.getElem?_inj (by omega) hn).mp (hx.trans hj.symm)
    omega
end
theorem allC_iff {kf : Nat → List Nat} (hd : ∀ u c, c ∈ kf u → c < u) (ha : ∀ u, (kf u).Pairwise (· < ·)) {to k : Nat} {w : List Nat} (hl : (k :: w).getLast? = some to) : (k :: w) ∈ allC kf to k ↔ isWayL kf (k :: w) := by
  constructor
  · intro h
    obtain ⟨p, hp, e⟩ := List.mem_map.mp h
    have hp := List.mem_range.mp hp
    obtain ⟨h1, _, _⟩ := wayN_ok hd ha (to := to) (n := k) (k := k) (p := (p : Int)) (Nat.le_refl k) (by omega) (by omega)
    rw [← e]
    exact h1
  · intro h
    exact (allC_perm hd ha).mem_iff.mpr (ext_mem hd h hl)
theorem allC_at {kf : Nat → List Nat} (hd : ∀ u c, c ∈ kf u → c < u) (ha : ∀ u, (kf u).Pairwise (· < ·)) {to k : Nat} {w : List Nat} (h : isWayL kf (k :: w)) (hl : (k :: w).getLast? = some to) : ∃ j : Nat, placeL kf to (k :: w) = (j : Int) ∧ (allC kf to k)[j]? = some (k :: w) := by
  have hm := (allC_iff hd ha hl).mpr h
  obtain ⟨p, hp, e⟩ := List.mem_map.mp hm
  have hp := List.mem_range.mp hp
  obtain ⟨_, _, h3⟩ := wayN_ok hd ha (to := to) (n := k) (k := k) (p := (p : Int)) (Nat.le_refl k) (by omega) (by omega)
  have e' : wayN kf to k k (p : Int) = k :: w := e
  rw [e'] at h3
  refine ⟨p, h3, ?_⟩
  unfold allC
  rw [List.getElem?_map, List.getElem?_range hp]
  exact congrArg some e
def spDue2 (K : PySem.W.Frag) : Sp := fun vs H Q _ => ∃ p rs x d l inner, vs = [.ref p, x] ∧ KdAt H p rs (kkOf l inner) ∧ WebP l inner ∧ Dp K H x d ∧ lenD d ≤ 1000 ∧ SeqAt.shaped d = true ∧ ∀ r H', Ex H H' → Dp K H' r (placeD l inner d) → Q r H'
def ttDu (K : PySem.W.Frag) : TT := tOr (tNot (tB (tCB (rIsi K) (tCons (tVar 3) (tCons (tC (.ty "int")) tNil))))) (tOr (tB (tCB (rIsi K) (tCons (tVar 3) (tCons (tC (.ty "bool")) tNil)))) (tNot (tTest (tChain (rI0 fun i j => .bl (decide (i ≤ j))) (rI0 fun i j => .bl (decide (i < j))) (tC (.int 0)) (tVar 3) (tCB (rLenS K) (tCons (tVar 0) tNil))))))
abbrev nDu : List Str := ["_law_kids_here", "_law_value", "_law_some", "_law_one_here"]
theorem scDu : FnScope nDu ["_law_kids_here", "_law_value"] (defScope s_law_due) := ⟨rfl, rfl, rfl, by decide +kernel, rfl, by decide +kernel, by decide +kernel⟩
section
variable {P : Program} {w : World} {K : PySem.W.Frag} {mg : Str → Option Value} {base : Heap}
theorem ok_due2 {f fA : Addr} {fd fdA : FuncData} (F : Fun K "_law_due" "_law_due" s_law_due f fd)
    (FA : Fun K "_law_all" "_law_all" s_law_all fA fdA) (bA : Binds K fdA ["_law_kids_here", "_law_kind", "_law_to"] []) (gA : mg "_law_all" = some (.ref fA))
    (m1 : mg "isinstance" = none) (m2 : mg "tuple" = none) (m3 : mg "int" = none) (m4 : mg "bool" = none) (m5 : mg "len" = none)
    (GA : FnOk P w K mg base CX0 1 fA fdA ["_law_kids_here", "_law_kind", "_law_to"] (spAll K)) :
    FnOk P w K mg base CX0 2 f fd ["_law_kids_here", "_law_value"] (spDue2 K) := by
  refine F.ok scDu (fun vs H Q E h => ?_) (fun cdv A outer s H vs Q E hr h => ?_)
  · obtain ⟨p, rs, x, d, l, inner, rfl, _⟩ := h
    rfl
  obtain ⟨p, rs, x, d, l, inner, rfl, hK, W', hx, hdl, hsh, q⟩ := h
  have hu := hr.units
  have hu65 := room65 hr
  refine ⟨_, pss_cons (ps_if (pw_or (pt_not (pt_val (pe_callB call_isi (by rfl) m1 (by decide +kernel) (pa_cons (pv 1) (pa_cons (pe_bltn (by rfl) m2 (by decide +kernel) (v := .ty "tuple") rfl) pa_nil))))) (pw_or1 (pt_cmpR (op_eqD hu) (pv 1) (pe_tup pa_nil) (nomark _)))).pt (pss_one (ps_ret (pe_lst (pa_cons (pv 1) pa_nil)))) pss_nil)
    (pss_cons (ps_if (pt_cmpR (op_neD hu) (pe_lc (own := [("_law_one_here", 3)]) (g := gName 3) (tt := ttDu K) (te := tC (.int 1)) rfl scDu.nd (pi_tup (pv 1)) (blkOk_by (N := nDu) (sc := defScope s_law_due) (by decide +kernel))
          (fun _ _ _ _ _ => pg_name (i := 3) scDu.nd rfl (Or.inl rfl))
          (fun _ _ _ _ _ => pts_one (PW.pt (pw_or (pt_not (pt_val (pe_callB call_isi (by rfl) m1 (by decide +kernel) (pa_cons (pv 3) (pa_cons (pe_bltn (by rfl) m3 (by decide +kernel) (v := .ty "int") rfl) pa_nil)))))
            (pw_or (pt_val (pe_callB call_isi (by rfl) m1 (by decide +kernel) (pa_cons (pv 3) (pa_cons (pe_bltn (by rfl) m4 (by decide +kernel) (v := .ty "bool") rfl) pa_nil))))
              (pw_or1 (pt_not (pt_chain op_le op_lt pe_int (pv 3) (pe_callB (r := rLenS K) call_len_seq (by rfl) m5 PySem.boot_len (pa_cons (pv 0) pa_nil))))))))) (fun _ _ _ _ _ => pe_int)) (pe_lst pa_nil) (nomark _)) (pss_one (ps_ret (pe_lst (pa_cons (pv 1) pa_nil)))) pss_nil)
    (pss_cons (ps_set (i := 2) scDu.nd rfl (.inl rfl) (pe_call GA (hr.mono (by decide)) (by rfl) gA FA.kp bA .nil pass0 (pa_cons (pv 0) (pa_cons (pe_ix (r := rIxT K) ix_tup (pv 1) pe_int (fun _ _ => rfl)) (pa_cons (pe_ix (r := rIxT K) ix_tup (pv 1) (pe_un un_neg pe_int) (fun _ _ => rfl)) pa_nil)))))
    (pss_one (ps_ret (pe_ifExp (pt_cmpR (op_inD hu65) (pv 1) (pv 2) (by first | exact nomark _ | rfl)) (pe_bm PySem.F.plainAttrs_list PySem.F.slot_list_index PySem.F.type_list_index (mt_indexD hu65) (pv 2) (pa_cons (pv 1) pa_nil)) (pe_lst (pa_cons (pv 1) pa_nil))))))), ?_⟩
  have hA := W'.ascS
  have hw := hA.raw
  have h1 := hw.l1
  have h8 := hw.l8
  have h20 := hw.n20
  have hdd : ∀ u c, c ∈ kidsAt l inner u → c < u := fun u c h => (kidsAt_lt hw h).2
  have pl0 : wayB l inner d = false → placeD l inner d = .list [d] := fun hb => by
    unfold placeD
    rw [if_neg (by rw [hb]; decide)]
  have retE : ∀ {σ' : L2.St} {H1 : Hp}, σ'[1]? = some (some x) → Ex H H1 → EvD K (tLst (tCons (tVar 1) tNil)) σ' H1 (.list [d]) := fun hs e => ed_n (ed_lst (eda_cons (ed_var hs (dp_ex e _ hx)) eda_nil) (by simp))
  show tSeq (tIfS _ _ _) _ _ [some (.ref p), some x, none, none] H
  by_cases ht : isTup d = false
  · have hno : wayB l inner d = false := by
      cases d with
      | tuple _ => cases ht
      | _ => rfl
    refine q_when (b := (!false) || true) (et_or (et_not (et_B (ev_isi (ed_var rfl hx) (by rw [kit_tup, ht])))) fun z => by cases z) (fun _ H1 e1 => ?_) fun z => by cases z
    exact retE rfl e1 H1 (Ex.refl H1) _ fun r H2 e2 hr => q r H2 (e1.trans e2) (by rw [pl0 hno]; exact hr)
  obtain ⟨ds, rfl⟩ : ∃ ds, d = .tuple ds := by
    cases d with
    | tuple ds => exact ⟨ds, rfl⟩
    | _ => exact absurd rfl ht
  have hdl : ds.length ≤ 1000 := hdl
  refine q_when (b := (!true) || ds.isEmpty) (et_or (et_not (et_B (ev_isi (ed_var rfl hx) (kit_tup (.tuple ds))))) fun _ => et_eqNilS (ed_var rfl hx) hsh) (fun z H1 e1 => ?_) fun z H1 e1 => ?_
  · have hno : wayB l inner (.tuple ds) = false := by
      show (!ds.isEmpty && _) = false
      rw [show ds.isEmpty = true by simpa using z]
      rfl
    exact retE rfl e1 H1 (Ex.refl H1) _ fun r H2 e2 hr => q r H2 (e1.trans e2) (by rw [pl0 hno]; exact hr)
  have hne : ds.isEmpty = false := by simpa using z
  obtain ⟨n, en⟩ : ∃ n, n = l + inner.length := ⟨_, rfl⟩
  have lenE : ∀ {σ' : L2.St} {H' : Hp}, σ'[0]? = some (some (.ref p)) → Ex H H' → Ev (tCB (rLenS K) (tCons (tVar 0) tNil)) σ' H' (.int (n : Int)) := fun h e =>
    ev_is (ev_len (K := K) (ev_var h) (sq_of (hK.ex e).at_)) (by rw [List.length_map, hK.len, kkOf_len, en])
  show tSeq (tIfS _ _ _) _ _ [some (.ref p), some x, none, none] H1
  let fB : PyData → Option PyData := fun d => if betw d 0 (topN l inner : Int) = true then none else some (.int 1)
  have hfe : ds.filterMap fB = List.replicate (ds.filterMap fB).length (.int 1) := by
    refine List.eq_replicate_iff.mpr ⟨rfl, fun y hy => ?_⟩
    obtain ⟨d0, _, hd0⟩ := List.mem_filterMap.mp hy
    have hd0 : (if betw d0 0 (topN l inner : Int) = true then none else some (PyData.int 1)) = some y := hd0
    split at hd0
    · cases hd0
    · exact (Option.some.inj hd0).symm
  have hsf : SeqAt.shaped (.list (ds.filterMap fB)) = true := by
    rw [hfe]
    have := shaped_ints (List.replicate (ds.filterMap fB).length 1)
    rw [List.map_replicate] at this
    exact this
  have hemp : (ds.filterMap fB).isEmpty = kindsB l inner ds := by
    rw [Bool.eq_iff_iff, List.isEmpty_iff, List.filterMap_eq_nil_iff]
    unfold kindsB
    rw [List.all_eq_true]
    refine forall_congr' fun d0 => forall_congr' fun _ => ?_
    show (if betw d0 0 (topN l inner : Int) = true then none else some (PyData.int 1)) = none ↔ _
    split
    · rename_i h
      exact ⟨fun _ => h, fun _ => rfl⟩
    · rename_i h
      exact ⟨fun z => (by cases z), fun z => absurd z h⟩
  refine q_when (b := !(ds.filterMap fB).isEmpty) (et_neNilS (ed_n (en_lc (K := K) (j := 3) (vs := [3]) fB (src_T (ds := ds) (ed_var rfl (dp_ex e1 _ hx))) (by omega) (fun _ => rfl) (fun d0 y H2 e2 hd0 hy => ?_) (fun d0 r y H2 e2 hd0 hy hr' => ?_) fun d0 r hd0 hr' => ?_)) hsf) (fun z H2 e2 => ?_) fun z H2 e2 => ?_
  · have hfb : (fB d0).isSome = (!isIntB d0 || (isBool d0 || !(match d0 with | .int i => decide (0 ≤ i) && decide (i < (n : Int)) | _ => false))) := by
      cases d0 with
      | int i =>
        show (if (decide (0 ≤ i) && decide (i ≤ (topN l inner : Int))) = true then none else some (PyData.int 1)).isSome = !(decide (0 ≤ i) && decide (i < (n : Int)))
        have e0 : decide (i ≤ (topN l inner : Int)) = decide (i < (n : Int)) := decide_eq_decide.mpr (by unfold topN; omega)
        rw [e0]
        cases (decide (0 ≤ i) && decide (i < (n : Int))) <;> rfl
      | _ => rfl
    rw [hfb]
    refine et_or (et_not (et_B (ev_isi (ed_var rfl hy) (kit_int d0)))) fun z => et_or (et_B (ev_isi (ed_var rfl hy) (kit_bool d0))) fun z2 => et_not (et_test ?_)
    obtain ⟨i, rfl⟩ : ∃ i, d0 = .int i := by
      cases d0 with
      | int i => exact ⟨i, rfl⟩
      | bool _ => cases z2
      | _ => cases z
    exact ev_chain (p1 := fun a b => decide (a ≤ b)) (p2 := fun a b => decide (a < b)) (ed_i ev_c) (ed_var rfl hy) (ed_i (lenE rfl (e1.trans e2)))
  · have hr' : (if betw d0 0 (topN l inner : Int) = true then none else some (PyData.int 1)) = some r := hr'
    split at hr'
    · cases hr'
    · cases hr'
      exact ed_i ev_c
  · have hr' : (if betw d0 0 (topN l inner : Int) = true then none else some (PyData.int 1)) = some r := hr'
    split at hr'
    · cases hr'
    · cases hr'
      rfl
  · have hno : wayB l inner (.tuple ds) = false := by
      show (!ds.isEmpty && (kindsB l inner ds && _)) = false
      rw [← hemp, show (ds.filterMap fB).isEmpty = false by simpa using z]
      simp
    exact retE rfl (e1.trans e2) H2 (Ex.refl H2) _ fun r H3 e3 hr => q r H3 ((e1.trans e2).trans e3) (by rw [pl0 hno]; exact hr)
  have hks : kindsB l inner ds = true := by
    rw [← hemp]
    simpa using z
  obtain ⟨eds, hlt⟩ := kinds_nat h1 hks
  have hW0 : ds.map numI ≠ [] := fun z => by
    cases ds with
    | nil => cases hne
    | cons _ _ => cases z
  obtain ⟨k, wr, eW⟩ : ∃ k wr, ds.map numI = k :: wr := by
    cases e : ds.map numI with
    | nil => exact absurd e hW0
    | cons k wr => exact ⟨k, wr, rfl⟩
  rw [eW] at eds hlt
  subst eds
  have e02 := e1.trans e2
  have hkl : k < l + inner.length := hlt k (List.mem_cons_self ..)
  obtain ⟨to, hto⟩ : ∃ to, (k :: wr).getLast? = some to := ⟨_, List.getLast?_eq_some_getLast (by simp)⟩
  have htl : to < l + inner.length := hlt to (List.mem_of_getLast? hto)
  have hkd : PyData.tuple (natDs (k :: wr)) = .tuple (natDs (k :: wr).dropLast ++ [natD to]) := by
    have hne : k :: wr ≠ [] := by simp
    have e : (k :: wr).getLast hne = to := by
      rw [List.getLast?_eq_some_getLast hne] at hto
      exact Option.some.inj hto
    congr 1
    conv => lhs; rw [← List.dropLast_concat_getLast hne, e]
    unfold natDs
    rw [List.map_append]
    rfl
  have hx2 := dp_ex e02 _ hx
  show tSeq _ _ _ [some (.ref p), some x, none, none] H2
  have hx2' := hx2
  rw [hkd] at hx2'
  refine ⟨.ref p, rfl, ?_⟩
  refine (ev_i (K := K) (ed_ixT (n := 0) (d := natD k) (ed_var rfl hx2) (ed_i ev_c) rfl rfl) : Ev _ _ H2 (nV k)) H2 (Ex.refl H2) _ fun H3 e3 => ?_
  refine (ev_i (K := K) (ed_last (ds := natDs (k :: wr).dropLast) (d := natD to) (ed_var rfl (dp_ex e3 _ hx2'))) : Ev _ _ H3 (nV to)) H3 (Ex.refl H3) _ fun H4 e4 => ?_
  have e04 := (e02.trans e3).trans e4
  have hfew := way_few W' htl hkl
  refine ⟨p, rs, l, inner, k, to, rfl, hK.ex e04, hA, hkl, by omega, fun r H5 hr5 e5 hL => ?_⟩
  have e05 := e04.trans e5
  have hx5 := dp_ex e05 _ hx
  have hin := et_inW (K := K) (W := k :: wr) (σ := [some (.ref p), some x, some (.ref r), none]) (ta := tVar 1) (tb := tVar 2) (ed_var rfl hx5) (ed_var rfl hL.dp)
  dsimp only [gName]
  show tRet (tIf _ _ _) _ [some (.ref p), some x, some (.ref r), none] H5
  refine hin H5 (Ex.refl H5) _ fun H6 e6 => ?_
  have hiff := allC_iff hdd hA.at (to := to) hto
  have hwb := wayB_iff (W := k :: wr) (inner := inner) h1 hlt (by simp)
  by_cases hway : isWayL (kidsAt l inner) (k :: wr)
  · rw [decide_eq_true (hiff.mpr hway)]
    obtain ⟨j, hj1, hj2⟩ := allC_at hdd hA.at hway hto
    refine (ev_indexK (K := K) (W := k :: wr) (ed_var (i := 2) rfl (hL.ex e6).dp) (ed_var (i := 1) rfl (dp_ex e6 _ hx5)) (allC_nd hdd hA.at) hj2 : Ev _ _ H6 _) H6 (Ex.refl H6) _ fun H7 e7 => ?_
    refine q _ H7 ((e05.trans e6).trans e7) ?_
    rw [show PyData.tuple (natDs (k :: wr)) = kidsD (k :: wr) from rfl, placeD_way (hwb.mpr hway) hto, hj1]
    exact .int _
  · rw [decide_eq_false (fun z => hway (hiff.mp z))]
    have hno : wayB l inner (.tuple (natDs (k :: wr))) = false := by
      cases e : wayB l inner (.tuple (natDs (k :: wr))) with
      | false => rfl
      | true => exact absurd (hwb.mp e) hway
    exact retE rfl (e05.trans e6) H6 (Ex.refl H6) _ fun r H7 e7 hr => q r H7 ((e05.trans e6).trans e7) (by rw [pl0 hno]; exact hr)
end
end WR
set_option Elab.async false
set_option linter.all false
set_option maxRecDepth 100000
set_option maxHeartbeats 2000000
/-! ### t[::-1], t a tuple -/
namespace L2
open PySem PySem.Spec PyProof.Rows HT
section
variable {prog : Program} {w : World} {A : Around} {E : Value → Shared → Prop} {s : Shared}
theorem adj_rev (n : Nat) : Builtin.Slice.sliceAdjust none none (-1) (n : Int) = ((n : Int) - 1, -1) := rfl
theorem places_rev (n : Nat) : Builtin.Slice.slicePlaces ((n : Int) - 1) (-1) (-1) = n := by
  unfold Builtin.Slice.slicePlaces
  rw [if_neg (by decide), show (-(-1) : Int) = 1 by decide, Int.ediv_one]
  split <;> omega
theorem applied_rev {sl : Addr} {u : Tok} {n : Nat} {Q : Int × Int × Nat → Shared → Prop} (hs : s.heap.IsSliceOf sl .none .none (.int (-1) u)) (h : Q ((n : Int) - 1, -1, n) s) :
    wpAny (model prog w) A (Builtin.Slice.sliceApplied (.ref sl) (pure (n : Int))) Q E s := by
  obtain ⟨os, hos, hcs, hds⟩ := id hs
  unfold Builtin.Slice.sliceApplied Builtin.Slice.sliceFields
  refine wpAny_bind (wpAny_bind (wpAny_field hos hds (x := .none) rfl (wpAny_bind (wpAny_field hos hds (x := .none) rfl (wpAny_bind (wpAny_field hos hds (x := .int (-1) u) rfl (wpAny_pure ?_)))))))
  refine wpAny_bind (slicePart_ (.int _ _) ?_)
  show wpAny _ _ (if ((-1 : Int) == 0) = true then _ else _) _ _ s
  rw [if_neg (by decide)]
  refine wpAny_bind (slicePart_ .none (wpAny_bind (slicePart_ .none (wpAny_bind (wpAny_pure ?_)))))
  show wpAny _ _ (pure ((n : Int) - 1, (-1 : Int), Builtin.Slice.slicePlaces ((n : Int) - 1) (-1) (-1))) _ _ s
  rw [places_rev]
  exact wpAny_pure h
theorem fmCongr {α β : Type} {f g : α → Option β} : ∀ {l : List α}, (∀ x ∈ l, f x = g x) → l.filterMap f = l.filterMap g
  | [], _ => rfl
  | x :: l, h => by
    rw [List.filterMap_cons, List.filterMap_cons, h x (List.mem_cons_self ..), fmCongr fun y hy => h y (List.mem_cons_of_mem _ hy)]
theorem pick_rev (xs : Array Value) : ((List.range xs.size).filterMap fun (m : Nat) => xs[(((xs.size : Int) - 1) + (m : Int) * (-1)).toNat]?).toArray = xs.toList.reverse.toArray := by
  have e : (List.range xs.size).filterMap (fun (m : Nat) => xs[(((xs.size : Int) - 1) + (m : Int) * (-1)).toNat]?) = ((List.range xs.size).map fun k => xs.size - 1 - k).filterMap (xs[·]?) := by
    rw [List.filterMap_map]
    refine fmCongr fun m hm => ?_
    have hm := List.mem_range.mp hm
    show xs[(((xs.size : Int) - 1) + (m : Int) * (-1)).toNat]? = xs[xs.size - 1 - m]?
    rw [show (((xs.size : Int) - 1) + (m : Int) * (-1)).toNat = xs.size - 1 - m by omega]
  rw [e, PySem.W.krv_range, List.filterMap_reverse, PySem.W.krv_all]
theorem getItem_tup_rev {t sl : Addr} {items : Array Value} {u : Tok} {Q : Value → Shared → Prop} (ht : IsTup s.heap t items) (hs : s.heap.IsSliceOf sl .none .none (.int (-1) u))
    (h : Q (.ref s.heap.objs.size) { s with heap := s.heap.push { cls := .type "tuple", data := .seq items.toList.reverse.toArray } })
    (hsz : items.size ≤ sizeLine) : wpAny (model prog w) A (getItem (.ref t) (.ref sl)) Q E s := by
  have htake : sizeOk (.seq items.toList.reverse.toArray) := by
    show items.toList.reverse.toArray.size ≤ sizeLine
    rw [List.size_toArray, List.length_reverse, Array.length_toList]
    exact hsz
  obtain ⟨os, hos, hcs, hds⟩ := id hs
  have hTs : s.TypeIs (.ref sl) "slice" := ⟨os, hos, hcs⟩
  unfold getItem
  try with_reducible refine wpAny_holding ?_
  first | refine wpAny_bind (wpAny_pure ?_) | skip
  refine wpAny_bind (wpAny_sequenceKey ht.typeIs (by decide) ?_)
  refine wpAny_bind (wpAny_callSpecial?_slot (name := Str.ofString "__getitem__") ht.typeIs PyProof.Rows.slot_tuple_getitem
    (wpAny_call_entry PyProof.Rows.slot_tuple_getitem ht.typeIs entry_tuple_getitem ?_ (args_tuple_getitem _ _)))
  show wpAny _ _ (Builtin.Tuple.tupleItemsOf (.ref t) >>= _) _ _ s
  refine wpAny_bind (tupleItemsOf_ ht ?_)
  refine wpAny_bind (wpAny_typeOf hTs ?_)
  rw [if_pos (by decide)]
  refine wpAny_bind (applied_rev hs ?_)
  have hno : ¬ ((((items.size : Int) - 1) == 0 && (-1 : Int) == 1 && items.size == items.size) = true) := by
    rw [show ((-1 : Int) == 1) = false by decide, Bool.and_false, Bool.false_and]
    decide
  show wpAny _ _ (if (((items.size : Int) - 1) == 0 && (-1 : Int) == 1 && items.size == items.size) = true then _ else _) _ _ s
  rw [if_neg hno, pick_rev]
  first
    | exact wpAny_bind (m := Builtin.Tuple.tupleExact _) (wpAny_newObj_type (wpAny_pure ⟨_, rfl, wpAny_pure h⟩) htake)
    | exact wpAny_bind (m := Builtin.Tuple.tupleExact _) (wpAny_newObj_type (wpAny_bind (wpAny_pure (wpAny_pure ⟨_, rfl, wpAny_pure h⟩))) htake)
    | exact wpAny_bind (wpAny_bind (m := Builtin.Tuple.tupleExact _) (wpAny_newObj_type (wpAny_pure (wpAny_pure ⟨_, rfl, wpAny_pure h⟩)) htake))
    | exact wpAny_bind (wpAny_bind (m := Builtin.Tuple.tupleExact _) (wpAny_newObj_type (wpAny_pure ⟨_, rfl, wpAny_pure h⟩) htake))
end
section
variable {X : Cx}
def tRevT (K : PySem.W.Frag) (te : TE) : TE := fun σ H Q => te σ H fun x H1 => ∃ a xs, x = .ref a ∧ SqT K H1 a xs ∧ ∀ p, H1 p = none → Q (.ref p) (upd H1 p (.tup xs.reverse))
theorem pe_revT {e : Expr} {te : TE} {k : Nat} {p1 p2 p3 pos : Pos} (he : PE X e te) : PE X (.Subscript e (.Slice none none (some (.UnaryOp .USub (.Constant (.int 1) k p1) p2)) p3) pos) (tRevT X.K te) := by
  refine ⟨fun pins s σ H Q I h => ?_⟩
  refine Subscript_ (thn (he.run pins s σ H _ I h) fun v s1 ⟨x, H1, I1, r1, q1⟩ => ?_)
  obtain ⟨a, xs, ex, hx, q⟩ := q1
  subst ex
  cases r1
  have hst : PO X (some (.UnaryOp .USub (.Constant (.int 1) k p1) p2)) (tPart (tUn (rU fun i => .int (-i)) (tC (.int 1)))) := po_some (pe_un un_neg pe_int)
  refine wpAny_Slice (thn (po_none.run pins s1 σ H1 (fun o H2 => o = none ∧ H2 = H1) I1 ⟨rfl, rfl⟩) fun vl s2 ⟨l, H2, I2, pl, el, e2⟩ => ?_)
  subst el e2
  refine thn (po_none.run pins s2 σ H2 (fun o H3 => o = none ∧ H3 = H2) I2 ⟨rfl, rfl⟩) fun vu s3 ⟨u, H3, I3, pu, eu, e3⟩ => ?_
  subst eu e3
  refine thn (hst.run pins s3 σ H3 (fun o H4 => o = some (-1) ∧ H4 = H3) I3 ⟨1, rfl, -1, rfl, rfl, rfl⟩) fun vs s4 ⟨o, H4, I4, ps, eo, e4⟩ => ?_
  subst eo e4
  cases pl
  cases pu
  cases ps with
  | int _ u =>
    have I5 : Inv X pins σ H4 { s4 with heap := s4.heap.push { cls := .type "slice", data := .fields #[.none, .none, .int (-1) u] } } := I4.kept (t' := s4.toks) fun b ob q => Heap.get?_push_of_some _ q
    obtain ⟨its, r, ht, hz⟩ := I5.tuple hx
    have hlen := r.length
    show wpAny (model X.prog X.w) X.A (subscriptTail e (.Slice none none (some (.UnaryOp .USub (.Constant (.int 1) k p1) p2)) p3) (.ref a) (.ref s4.heap.objs.size)) (EP X pins σ Q) X.xe { s4 with heap := s4.heap.push { cls := .type "slice", data := .fields #[.none, .none, .int (-1) u] } }
    refine tail_any (ops := [.ref a, .ref s4.heap.objs.size]) ht.typeIs (PyProof.Rows.slot_tuple_getitem.lookup) ?_ (by with_unfolding_all rfl)
    refine getItem_tup_rev ht (Heap.IsSliceOf.new _ .none .none (.int (-1) u)) ?_ (by rw [List.size_toArray]; omega)
    refine ⟨.ref _, _, I5.laid (t' := s4.toks) (o := .tup xs.reverse) (fun b ob q => Heap.get?_push_of_some _ q) (Nat.le_refl _) ?_, rfl, q _ (I5.hok.fresh (Nat.le_refl _))⟩
    exact ⟨by rw [List.length_reverse]; exact hz, _, r.reverse, IsTup.new _ _⟩
end
end L2
set_option Elab.async false
set_option linter.all false
set_option maxRecDepth 100000
set_option maxHeartbeats 2000000
namespace WR
open PySem PySem.Spec PyProof.Rows L2 Evl

/-! ### lists of drawn data -/
section
variable {K : PySem.W.Frag} {σ : L2.St} {H : Hp} {ta tb te t1 : TE} {dk L : Addr} {ns : List Int} {D : Ends} {tu tz : TS}
def EvPN (K : PySem.W.Frag) (σ : L2.St) (H : Hp) (dk L : Addr) (ns : List Int) (te : TE) (c : Int) (P : List PyData → Prop) : Prop := ∀ H1 N, Bs H H1 dk L ns N → N + c ≤ 380000000 →
  ∀ Q : VK, (∀ p xs ds H2, H1 p = none → Bs H1 H2 dk L ns (N + c) → H2 p = some (.lst xs) → DpAll K H2 xs ds → nlAll ds = true → P ds → Q (.ref p) H2) → te σ H1 Q
def PrD (K : PySem.W.Frag) (P : PyData → Prop) (v : V) (H : Hp) : Prop := ∃ d, P d ∧ nl d = true ∧ Dp K H v d
theorem keep_D {P : PyData → Prop} : Keep dk L ns (PrD K P) := fun v H1 H2 N M hD b h => by
  obtain ⟨d, h1, h2, h3⟩ := h
  exact ⟨d, h1, h2, b.at (K := K) hD h2 h3⟩
theorem Bs.all {H1 H2 : Hp} {N M : Int} (hD : Dk H1 dk L ns N) (b : Bs H1 H2 dk L ns M) {xs : List V} {ds : List PyData} (n : nlAll ds = true) (h : DpAll K H1 xs ds) : DpAll K H2 xs ds := by
  obtain ⟨x, y, z, dd, _⟩ := hD
  exact dpAll_ex b.ex _ (dpAll_rem dd.at_ _ n h)
theorem epn_lc {n j : Nat} {c : Int} {vs : List Nat} {ra : TA} {P : PyData → Prop} (hc0 : 0 ≤ c) (h : ∀ H1 N, Bs H H1 dk L ns N → EvA ra σ H1 [.int (n : Int)]) (hn : n ≤ 1000) (hw : ∀ x, wipe ((wipe σ vs).set j (some x)) vs = wipe σ vs)
    (hs : ∀ k, k < n → EvP ((wipe σ vs).set j (some (nV k))) H dk L ns te c (PrD K P)) :
    EvPN K σ H dk L ns (tLc (iRng1 ra) (gName j) tYes te vs) ((n : Int) * c) (fun ds => ds.length = n ∧ ∀ d ∈ ds, P d) := fun H1 N b hN Q q => by
  refine h H1 N b H1 (Ex.refl H1) _ fun H2 e2 => ⟨(n : Int), rfl, by omega, by omega, fun Dl hDl => ?_⟩
  have hD1 : H1 Dl = none := fresh_back e2 hDl
  have b1 : Bs H1 (upd H2 Dl (.lst [])) dk L ns N := ((Bs.rfl b.deck).more e2).more (Ex.new hDl)
  rw [Int.toNat_natCast]
  refine lc_range (lo := 0) (n := n) (fun m H' => ∃ xs ds, Bs H1 H' dk L ns (N + (m : Int) * c) ∧ H' Dl = some (.lst xs) ∧ DpAll K H' xs ds ∧ nlAll ds = true ∧ ds.length = m ∧ ∀ d ∈ ds, P d)
    ⟨[], [], b1.wk (by simp), upd_same, .nil, rfl, rfl, fun d h => (List.not_mem_nil h).elim⟩ (fun m H' hm hP => ?_) fun H' hP => ?_
  · obtain ⟨xs, ds, b2, hl, hd, hn2, hlen, hall⟩ := hP
    refine ⟨hw _, yes_ ?_⟩
    show te ((wipe σ vs).set j (some (.int ((0 : Int) + (m : Int))))) H' _
    rw [Int.zero_add]
    have hmc : ((m : Int) + 1) * c ≤ (n : Int) * c := Int.mul_le_mul_of_nonneg_right (by omega) hc0
    have hmm : ((m : Int) + 1) * c = (m : Int) * c + c := by rw [Int.add_mul, Int.one_mul]
    have hne : Dl ≠ dk := b.deck.ne hD1
    refine hs m hm H' (N + (m : Int) * c) (b.tr b2) (by omega) _ fun v H3 b3 p => ?_
    obtain ⟨d, hP, hnl, hdv⟩ := p
    have hl3 : H3 Dl = some (.lst xs) := b3.ex _ _ (by rw [rem_ne hne]; exact hl)
    have hd3 := b3.all (K := K) b2.deck hn2 hd
    refine ⟨xs, hl3, sz_lt (by rw [dpAll_len hd, hlen]; omega), xs ++ [v], ds ++ [d], ((b2.tr b3).upd hD1).wk (by rw [Int.natCast_add]; show N + (m : Int) * c + c ≤ N + ((m : Int) + 1) * c; omega), upd_same, dpAll_snoc (dpAll_updL hl3 _ hn2 hd3) (dp_updL hl3 _ hnl hdv), nlAll_snoc hn2 hnl, by rw [List.length_append, hlen]; rfl, fun x hx => ?_⟩
    rcases List.mem_append.mp hx with hx | hx
    · exact hall x hx
    · rw [List.mem_singleton.mp hx]
      exact hP
  · obtain ⟨xs, ds, b2, hl, hd, hn2, hlen, hall⟩ := hP
    exact q Dl xs ds H' hD1 b2 hl hd hn2 ⟨hlen, hall⟩
theorem epn_cat {c : Int} {es : List PyData} {P : List PyData → Prop} (ha : EvPN K σ H dk L ns ta c P) (hb : ∀ H1 N, Bs H H1 dk L ns N → EvN K tb σ H1 es) (hl : ∀ ds, P ds → ds.length + es.length ≤ 100000) (hn : nlAll es = true) :
    EvPN K σ H dk L ns (tOp rCat ta tb) c (fun ds => ∃ d1, P d1 ∧ ds = d1 ++ es) := fun H1 N b hN Q q =>
  ha H1 N b hN _ fun p xs ds H2 hp b2 hx hd hn2 hP => hb H2 _ (b.tr b2) H2 (Ex.refl H2) _ fun r ys H3 hr e3 hy he =>
    ⟨p, r, xs, ys, rfl, rfl, e3 _ _ hx, hy, sz_of (by rw [dpAll_len hd, dpAll_len he]; exact hl _ hP), fun t ht => by
      have hne : t ≠ dk := (b2.deck.ex e3).ne ht
      have e4 := Ex.new (o := .lst (xs ++ ys)) ht
      refine q t _ (ds ++ es) _ ?_ ((b2.more e3).more e4) upd_same (dpAll_app (dpAll_ex (e3.trans e4) _ hd) (dpAll_ex e4 _ he)) (nlAll_app hn2 hn) ⟨ds, hP, rfl⟩
      exact b2.new (fresh_back e3 ht)⟩
theorem q_asgPN {i : Nat} {c N : Int} {P : List PyData → Prop} (h : EvPN K σ H dk L ns te c P) (hD : Dk H dk L ns N) (hN : N + c ≤ 380000000)
    (k : ∀ p ds H1, H p = none → Bs H H1 dk L ns (N + c) → LD K H1 p ds → nlAll ds = true → P ds → tz D (σ.set i (some (.ref p))) H1) : tSeq (tAsg te (gName i)) tz D σ H :=
  h H N (Bs.rfl hD) hN _ fun p xs ds H1 hp b hx hd hn hP => k p ds H1 hp b ⟨xs, hx, hd⟩ hn hP
/-- xs = [x for x in range(n) if draw(deck, 2) == 0] -/
theorem q_pickD {E : XK} {i j n : Nat} {N : Int} {vs : List Nat} {ra : TA} (h : EvA ra σ H [.int (n : Int)]) (hn : n ≤ 1000) (h1 : ∀ x H, Ev t1 ((wipe σ vs).set j x) H (.ref dk)) (hw : ∀ x, wipe ((wipe σ vs).set j (some x)) vs = wipe σ vs) (hj : j < (wipe σ vs).length) (hD : Dk H dk L ns N) (hN : N ≤ 900000000)
    (k : ∀ p (ks : List Nat) H', H p = none → Bs H H' dk L ns (N + n) → ks.Pairwise (· < ·) → (∀ c ∈ ks, c < n) → H' p = some (.lst (nVs ks)) → tz D (σ.set i (some (.ref p))) H') :
    tSeq (tAsg (tLc (iRng1 ra) (gName j) (tTest (tOp rEq (tCall spDraw [] E (tCons t1 (tCons (tC (.int 2)) tNil))) (tC (.int 0)))) (tVar j) vs) (gName i)) tz D σ H :=
  h H (Ex.refl H) _ fun H1 e1 => ⟨(n : Int), rfl, by omega, by omega, fun Dl hDl => by
    rw [Int.toNat_natCast]
    have hD1 := hD.ex e1
    have b0 := (Bs.rfl hD).more e1
    have hDlH : H Dl = none := fresh_back e1 hDl
    refine lc_range (lo := 0) (n := n) (fun m H' => ∃ ks : List Nat, Bs H H' dk L ns (N + m) ∧ H' Dl = some (.lst (nVs ks)) ∧ ks.Pairwise (· < ·) ∧ (∀ c ∈ ks, c < m) ∧ ks.length ≤ m) ⟨[], (b0.more (Ex.new hDl)).wk (by omega), upd_same, List.Pairwise.nil, fun c hc => (List.not_mem_nil hc).elim, Nat.le_refl 0⟩ (fun m H' hm hP => ?_) fun H' hP => ?_
    · obtain ⟨ks, b, hl, hp, hb, hll⟩ := hP
      refine ⟨hw _, ?_⟩
      refine ev_draw (m := 2) (h1 _ H') ev_c b.deck (by omega) (by decide) (by decide) H' (Ex.refl H') _ fun r H3 hr b3 => ⟨rfl, decide (nV r = .int 0), rfl, ?_⟩
      have hne : Dl ≠ dk := b.ne hDlH
      have hl3 : H3 Dl = some (.lst (nVs ks)) := b3.ex _ _ (by rw [rem_ne hne]; exact hl)
      have b13 : Bs H H3 dk L ns (N + ((m + 1 : Nat) : Int)) := (b.tr b3).wk (by omega)
      cases hd : decide (nV r = V.int 0) with
      | false => exact ⟨ks, b13, hl3, hp, fun c hc => by have := hb c hc; omega, by omega⟩
      | true =>
        dsimp only
        rw [if_pos rfl]
        refine ⟨.int ((0 : Int) + (m : Int)), ?_, nVs ks, hl3, sz_lt (by unfold nVs; rw [List.length_map]; omega), ks ++ [m], b13.upd hDlH, ?_, ?_, fun c hc => ?_, ?_⟩
        · rw [List.getElem?_set_self hj]
        · rw [upd_same]
          unfold nVs
          rw [List.map_append, Int.zero_add]
          rfl
        · exact List.pairwise_append.mpr ⟨hp, List.pairwise_singleton .., fun a ha c hc => by rw [List.mem_singleton.mp hc]; exact hb a ha⟩
        · rcases List.mem_append.mp hc with hc | hc
          · have := hb c hc
            omega
          · rw [List.mem_singleton.mp hc]
            omega
        · rw [List.length_append]
          simp
          omega
    · obtain ⟨ks, b, hl, hp, hb, hll⟩ := hP
      exact k Dl ks _ hDlH b hp hb hl⟩
theorem el_of {ks : List Nat} (h : EvN K te σ H (natDs ks)) : EvL te σ H (nVs ks) := fun H1 e Q q => h H1 e Q fun p xs H2 hp e2 h2 hd => q p H2 hp e2 (by rw [← nats_of hd]; exact h2)
/-- [refs of what is made, one by one] -/
theorem q_lcRefs {i j n : Nat} {vs : List Nat} {ra : TA} (Pr : Nat → Addr → Hp → Prop) (hmono : ∀ k a H H', Ex H H' → Pr k a H → Pr k a H') (hupd : ∀ k a H D xs ys, H D = some (.lst xs) → Pr k a H → Pr k a (upd H D (.lst ys)))
    (h : EvA ra σ H [.int (n : Int)]) (hn : n ≤ 40000) (hw : ∀ x, wipe ((wipe σ vs).set j (some x)) vs = wipe σ vs)
    (hs : ∀ (k : Nat) H1, Ex H H1 → k < n → ∀ Q : VK, (∀ a H2, Ex H1 H2 → Pr k a H2 → Q (.ref a) H2) → te ((wipe σ vs).set j (some (nV k))) H1 Q)
    (c : ∀ (p : Addr) (as : List Addr) H1, H p = none → Ex H H1 → H1 p = some (.lst (as.map V.ref)) → as.length = n → (∀ k a, as[k]? = some a → Pr k a H1) → tz D (σ.set i (some (.ref p))) H1) :
    tSeq (tAsg (tLc (iRng1 ra) (gName j) tYes te vs) (gName i)) tz D σ H :=
  h H (Ex.refl H) _ fun H1 e1 => ⟨(n : Int), rfl, by omega, by omega, fun Dl hD => lc_range (lo := 0) (n := (n : Int).toNat) (fun m H' => Ex H1 H' ∧ ∃ as : List Addr, H' Dl = some (.lst (as.map V.ref)) ∧ as.length = m ∧ ∀ k a, as[k]? = some a → Pr k a H')
    ⟨Ex.new hD, [], upd_same, rfl, fun k a h => by simp at h⟩ (fun m H' hm hP => by
      obtain ⟨e2, as, h1, h2, h3⟩ := hP
      have hm : m < n := by omega
      refine ⟨hw _, yes_ ?_⟩
      show te ((wipe σ vs).set j (some (.int ((0 : Int) + (m : Int))))) H' _
      rw [Int.zero_add]
      refine hs m H' (e1.trans e2) hm _ fun a H3 e3 hPr => ⟨as.map V.ref, e3 _ _ h1, sz_lt (by rw [List.length_map]; omega), Ex.mut (e2.trans e3) hD, as ++ [a], by rw [upd_same, List.map_append]; rfl, by rw [List.length_append, h2]; rfl, fun k b hb => ?_⟩
      have h13 := e3 _ _ h1
      refine hupd k b H3 Dl _ _ h13 ?_
      by_cases z : k < as.length
      · rw [List.getElem?_append_left z] at hb
        exact hmono k b H' H3 e3 (h3 k b hb)
      · rw [List.getElem?_append_right (by omega)] at hb
        have : k - as.length = 0 := by
          have := (List.getElem?_eq_some_iff.mp hb).1
          rw [List.length_singleton] at this
          omega
        rw [this] at hb
        cases hb
        rw [show k = m by omega]
        exact hPr) fun H2 hP => by
      obtain ⟨e2, as, h1, h2, h3⟩ := hP
      exact c Dl as H2 (fresh_back e1 hD) (e1.trans e2) h1 (by rw [h2, Int.toNat_natCast]) h3⟩
end
end WR
set_option Elab.async false
set_option linter.all false
set_option maxRecDepth 100000
set_option maxHeartbeats 2000000
namespace WR
open PySem PySem.Spec PyProof.Rows L2 Evl

/-! ### values that stand beside the deck, while it is drawn from -/
theorem exr {H H' : Hp} {dk : Addr} (e : Ex (rem H dk) H') : Ex (rem H dk) (rem H' dk) := fun a o h => by
  have hne : a ≠ dk := fun z => by
    rw [z, rem_self] at h
    cases h
  rw [rem_ne hne]
  exact e a o h
/-- an item of a bent way -/
structure It (d : PyData) : Prop where
  sm : Sm 200 1 d
  lay : d.canLay0 = true
  dp : d.depth ≤ 1
theorem it_int {i : Int} (h : i.natAbs < 10 ^ 45) : It (.int i) := ⟨(sm_big h).up (by decide) (by decide), rfl, by simp [PyData.depth]⟩
theorem it_nat {k : Nat} (h : k < 1000) : It (natD k) := it_int (by show (k : Int).natAbs < 10 ^ 45; exact Nat.lt_of_lt_of_le (show (k : Int).natAbs < 1000 by omega) (by decide))
/-- the values of the law -/
def VD (m : Nat) (d : PyData) : Prop := (∃ ds, (d = .tuple ds ∨ d = .list ds) ∧ ds.length ≤ m ∧ ∀ x ∈ ds, It x) ∨ d = .none ∨ d = .str ""
theorem layI : ∀ {ds : List PyData}, (∀ x ∈ ds, It x) → PyData.canLayAll0 ds = true ∧ PyData.depthAll ds ≤ 1
  | [], _ => by simp [PyData.canLayAll0, PyData.depthAll]
  | d :: ds, h => by
    obtain ⟨a, b⟩ := layI (ds := ds) fun x hx => h x (List.mem_cons_of_mem _ hx)
    have q := h d (List.mem_cons_self ..)
    have := q.dp
    simp only [PyData.canLayAll0, PyData.depthAll, q.lay, a]
    exact ⟨rfl, by omega⟩
theorem VD.sm {m : Nat} {d : PyData} (h : VD m d) (hm : m ≤ 100) : Sm 20100 2 d := by
  rcases h with ⟨ds, rfl | rfl, hl, hi⟩ | rfl | rfl
  · exact (sm_tup (w := 200) (dp := 1) (n := 100) (fun x hx => (hi x hx).sm) (by omega)).up (by decide) (by decide)
  · exact (sm_lst (w := 200) (dp := 1) (n := 100) (fun x hx => (hi x hx).sm) (by omega)).up (by decide) (by decide)
  · exact sm_none.up (by decide) (by decide)
  · refine ⟨by decide +kernel, by decide +kernel, by decide +kernel, ?_, ?_⟩
    · exact Nat.le_trans (show PyData.weight (.str "") ≤ 100 by decide +kernel) (by decide)
    · exact Nat.le_trans (show PyData.depth (.str "") ≤ 0 by decide +kernel) (by decide)
theorem VD.sh {m : Nat} {d : PyData} (h : VD m d) : SeqAt.shaped d = true := by
  rcases h with ⟨ds, rfl | rfl, hl, hi⟩ | rfl | rfl
  · obtain ⟨a, b⟩ := layI hi
    show (PyData.canLay0 _ && decide (PyData.depth _ ≤ 64)) = true
    simp only [PyData.canLay0, PyData.depth, a]
    rw [Bool.true_and]
    exact decide_eq_true (by omega)
  · obtain ⟨a, b⟩ := layI hi
    show (PyData.canLay0 _ && decide (PyData.depth _ ≤ 64)) = true
    simp only [PyData.canLay0, PyData.depth, a]
    rw [Bool.true_and]
    exact decide_eq_true (by omega)
  · decide +kernel
  · decide +kernel
theorem VD.len {m : Nat} {d : PyData} (h : VD m d) : lenD d ≤ m := by
  rcases h with ⟨ds, rfl | rfl, hl, hi⟩ | rfl | rfl
  · exact hl
  all_goals exact Nat.zero_le _
theorem VD.up {m m' : Nat} {d : PyData} (h : VD m d) (hm : m ≤ m') : VD m' d := by
  rcases h with ⟨ds, e, hl, hi⟩ | h
  · exact Or.inl ⟨ds, e, Nat.le_trans hl hm, hi⟩
  · exact Or.inr h
section
variable {K : PySem.W.Frag} {dk L : Addr} {ns : List Int}
/-- a good item -/
def IV (K : PySem.W.Frag) (dk : Addr) (H : Hp) (v : V) : Prop := ∃ d, Dp K (rem H dk) v d ∧ It d
/-- a tuple of good items -/
def TV (K : PySem.W.Frag) (dk : Addr) (H : Hp) (m : Nat) (v : V) : Prop := ∃ a xs, v = .ref a ∧ SqT K (rem H dk) a xs ∧ xs.length ≤ m ∧ ∀ y ∈ xs, IV K dk H y
/-- a good value -/
def GV (K : PySem.W.Frag) (dk : Addr) (H : Hp) (m : Nat) (v : V) : Prop := ∃ d, Dp K (rem H dk) v d ∧ VD m d
theorem IV.ex {H H' : Hp} {v : V} (h : IV K dk H v) (e : Ex (rem H dk) (rem H' dk)) : IV K dk H' v := by
  obtain ⟨d, a, b⟩ := h
  exact ⟨d, dp_ex e _ a, b⟩
theorem TV.ex {H H' : Hp} {m : Nat} {v : V} (h : TV K dk H m v) (e : Ex (rem H dk) (rem H' dk)) : TV K dk H' m v := by
  obtain ⟨a, xs, e1, h1, h2, h3⟩ := h
  exact ⟨a, xs, e1, ex_t e h1, h2, fun y hy => (h3 y hy).ex e⟩
theorem GV.ex {H H' : Hp} {m : Nat} {v : V} (h : GV K dk H m v) (e : Ex (rem H dk) (rem H' dk)) : GV K dk H' m v := by
  obtain ⟨d, a, b⟩ := h
  exact ⟨d, dp_ex e _ a, b⟩
theorem GV.up {H : Hp} {m m' : Nat} {v : V} (h : GV K dk H m v) (hm : m ≤ m') : GV K dk H m' v := by
  obtain ⟨d, a, b⟩ := h
  exact ⟨d, a, b.up hm⟩
theorem all_data {H : Hp} : ∀ {xs : List V}, (∀ y ∈ xs, IV K dk H y) → ∃ ds, DpAll K (rem H dk) xs ds ∧ ds.length = xs.length ∧ ∀ x ∈ ds, It x
  | [], _ => ⟨[], .nil, rfl, fun x hx => by cases hx⟩
  | x :: xs, h => by
    obtain ⟨ds, a, b, c⟩ := all_data (xs := xs) fun y hy => h y (List.mem_cons_of_mem _ hy)
    obtain ⟨d, h1, h2⟩ := h x (List.mem_cons_self ..)
    refine ⟨d :: ds, .cons h1 a, by rw [List.length_cons, List.length_cons, b], fun y hy => ?_⟩
    rcases List.mem_cons.mp hy with rfl | hy
    · exact h2
    · exact c y hy
theorem TV.gv {H : Hp} {m : Nat} {v : V} (h : TV K dk H m v) : GV K dk H m v := by
  obtain ⟨a, xs, rfl, h1, h2, h3⟩ := h
  obtain ⟨ds, d1, d2, d3⟩ := all_data h3
  exact ⟨.tuple ds, .tup h1 d1, Or.inl ⟨ds, Or.inl rfl, by omega, d3⟩⟩
theorem tv_of {H : Hp} {m : Nat} {v : V} {ds : List PyData} (h : Dp K (rem H dk) v (.tuple ds)) (hl : ds.length ≤ m) (hi : ∀ x ∈ ds, It x) : TV K dk H m v := by
  obtain ⟨a, xs, rfl, hs, hd⟩ := dp_tup h
  refine ⟨a, xs, rfl, hs, by rw [dpAll_len hd]; exact hl, fun y hy => ?_⟩
  obtain ⟨i, hi', e⟩ := List.mem_iff_getElem.mp hy
  obtain ⟨d, d1, d2⟩ := dpAll_at hd (i := i) (v := y) (by rw [List.getElem?_eq_getElem hi', e])
  exact ⟨d, d2, hi d (List.mem_of_getElem? d1)⟩
theorem new_rem {H : Hp} {p : Addr} {o : HO} (hne : p ≠ dk) : rem (upd H p o) dk p = some o := by
  rw [rem_ne hne]
  exact upd_same
/-! evaluations with draws: from any heap that came of B by draws -/
def EvDr (K : PySem.W.Frag) (B : Hp) (dk L : Addr) (ns : List Int) (σ : L2.St) (M : Int) (c : Nat) (te : TE) (R : Hp → V → Prop) : Prop := ∀ H N, Bs B H dk L ns N → N ≤ M → ∀ Q : VK, (∀ v H2, Bs H H2 dk L ns (N + c) → R H2 v → Q v H2) → te σ H Q
def EvDL (K : PySem.W.Frag) (B : Hp) (dk L : Addr) (ns : List Int) (σ : L2.St) (M : Int) (c : Nat) (ta : TA) (R : Hp → List V → Prop) : Prop := ∀ H N, Bs B H dk L ns N → N ≤ M → ∀ Q : List V → Hp → Prop, (∀ vs H2, Bs H H2 dk L ns (N + c) → R H2 vs → Q vs H2) → ta σ H Q
/-- stays while the deck is drawn from -/
def Stay (dk : Addr) (R : Hp → V → Prop) : Prop := ∀ H H' v, R H v → Ex (rem H dk) (rem H' dk) → R H' v
/-- a list of such -/
def LV (dk : Addr) (R : Hp → V → Prop) (n : Nat) (H : Hp) (v : V) : Prop := ∃ p xs, v = .ref p ∧ p ≠ dk ∧ H p = some (.lst xs) ∧ 1 ≤ xs.length ∧ xs.length ≤ n ∧ ∀ y ∈ xs, R H y
theorem st_iv : Stay dk (IV K dk) := fun _ _ _ h e => h.ex e
theorem st_gv {m : Nat} : Stay dk fun H v => GV K dk H m v := fun _ _ _ h e => h.ex e
theorem st_tv {m : Nat} : Stay dk fun H v => TV K dk H m v := fun _ _ _ h e => h.ex e
theorem st_lv {R : Hp → V → Prop} {n : Nat} (hR : Stay dk R) : Stay dk (LV dk R n) := fun H H' v h e => by
  obtain ⟨p, xs, rfl, h1, h2, h3, h4, h5⟩ := h
  have q := e p (.lst xs) (by rw [rem_ne h1]; exact h2)
  rw [rem_ne h1] at q
  exact ⟨p, xs, rfl, h1, q, h3, h4, fun y hy => hR _ _ _ (h5 y hy) e⟩
variable {B : Hp} {σ : L2.St} {M : Int} {c c1 c2 m m1 m2 i n n1 n2 : Nat} {te ta tb : TE} {v : V} {R : Hp → V → Prop}
theorem bs_z {H : Hp} {N : Int} (b : Bs B H dk L ns N) : Bs H H dk L ns (N + (0 : Nat)) := by
  rw [show N + ((0 : Nat) : Int) = N by omega]
  exact Bs.rfl b.deck
theorem bs_s {H H' : Hp} {N : Int} (b : Bs H H' dk L ns (N + (c1 : Nat) + (c2 : Nat))) : Bs H H' dk L ns (N + ((c1 + c2 : Nat) : Int)) := by
  rw [show N + ((c1 + c2 : Nat) : Int) = N + (c1 : Nat) + (c2 : Nat) by omega]
  exact b
theorem bs_new {H : Hp} {N : Int} {p : Addr} {o : HO} (b : Bs B H dk L ns N) (hp : H p = none) : Bs H (upd H p o) dk L ns N := (Bs.rfl b.deck).more (Ex.new hp)
theorem dr_var (hs : σ[i]? = some (some v)) (h : R B v) (hR : Stay dk R) : EvDr K B dk L ns σ M 0 (tVar i) R := fun H N b hN Q q => ⟨v, hs, q v H (bs_z b) (hR _ _ _ h (exr b.ex))⟩
theorem dr_map {R R' : Hp → V → Prop} (h : EvDr K B dk L ns σ M c te R) (hr : ∀ H v, R H v → R' H v) : EvDr K B dk L ns σ M c te R' := fun H N b hN Q q => h H N b hN Q fun v H2 b2 hv => q v H2 b2 (hr H2 v hv)
theorem TV.new {H : Hp} {ys : List V} {N : Int} (b : Bs B H dk L ns N) (hi : ∀ y ∈ ys, IV K dk H y) (hl : ys.length ≤ m) {p : Addr} (hp : H p = none) : TV K dk (upd H p (.tup ys)) m (.ref p) := by
  have b2 := bs_new (o := .tup ys) b hp
  exact ⟨p, ys, rfl, st_of (new_rem (b.deck.ne hp)), hl, fun y hy => (hi y hy).ex (exr b2.ex)⟩
/-- t[lo:hi] -/
theorem dr_sl {tl th : TO} {lo hi : Option Int} (h : EvDr K B dk L ns σ M c te fun H v => TV K dk H m v) (hl : ∀ H (Q : Option Int → Hp → Prop), (∀ H2, Ex H H2 → Q lo H2) → tl σ H Q) (hh : ∀ H (Q : Option Int → Hp → Prop), (∀ H2, Ex H H2 → Q hi H2) → th σ H Q) :
    EvDr K B dk L ns σ M c (tSl (rSlA K) te tl th) fun H v => TV K dk H m v := fun H N b hN Q q => h H N b hN _ fun v H2 b2 hv => hl H2 _ fun H3 e3 => hh H3 _ fun H4 e4 => by
  have b4 := (b2.more e3).more e4
  have hv := hv.ex (H' := H4) (exr (rem_ex.trans (e3.trans e4)))
  obtain ⟨a, xs, rfl, h1, h2, h3⟩ := hv
  refine ⟨a, xs, rfl, ex_t rem_ex h1, fun _ => q _ H4 b4 ⟨a, xs, rfl, h1, h2, h3⟩, fun _ p hp => q _ _ (b4.tr (bs_new b4 hp)) (TV.new b4 (fun y hy => h3 y ?_) (Nat.le_trans (cutV_length _ _ _) h2) hp)⟩
  unfold cutV at hy
  exact List.mem_of_mem_drop (List.mem_of_mem_take hy)
theorem pt_no : ∀ H (Q : Option Int → Hp → Prop), (∀ H2, Ex H H2 → Q none H2) → tNoPart σ H Q := fun H Q q => q H (Ex.refl H)
theorem pt_i {i : Int} (h : ∀ H, Ev te σ H (.int i)) : ∀ H (Q : Option Int → Hp → Prop), (∀ H2, Ex H H2 → Q (some i) H2) → tPart te σ H Q := fun H Q q => h H H (Ex.refl H) _ fun H2 e2 => ⟨i, rfl, q H2 e2⟩
/-- t + u -/
theorem dr_cat (h1 : EvDr K B dk L ns σ M c1 ta fun H v => TV K dk H m1 v) (h2 : EvDr K B dk L ns σ (M + c1) c2 tb fun H v => TV K dk H m2 v) (hm : m1 + m2 ≤ 10000) :
    EvDr K B dk L ns σ M (c1 + c2) (tOp (rCatA K) ta tb) fun H v => TV K dk H (m1 + m2) v := fun H N b hN Q q =>
  h1 H N b hN _ fun v H2 b2 hv => h2 H2 (N + c1) (b.tr b2) (by omega) _ fun w H3 b3 hw => by
    have b4 := bs_s (b2.tr b3)
    have hv := hv.ex (exr b3.ex)
    obtain ⟨a, xs, rfl, s1, l1, i1⟩ := hv
    obtain ⟨b', ys, rfl, s2, l2, i2⟩ := hw
    refine ⟨a, b', xs, ys, rfl, rfl, ex_t rem_ex s1, ex_t rem_ex s2, sz_of (by omega), fun _ => q _ H3 b4 ⟨b', ys, rfl, s2, by omega, i2⟩, fun _ _ => q _ H3 b4 ⟨a, xs, rfl, s1, by omega, i1⟩, fun _ _ p hp => q _ _ (b4.tr (bs_new b4 hp)) (TV.new b4 (fun y hy => ?_) (by rw [List.length_append]; omega) hp)⟩
    rcases List.mem_append.mp hy with hy | hy
    · exact i1 y hy
    · exact i2 y hy
/-- (x,) -/
theorem dr_one (h : EvDr K B dk L ns σ M c te (IV K dk)) : EvDr K B dk L ns σ M c (tTup (tCons te tNil)) fun H v => TV K dk H 1 v := fun H N b hN Q q =>
  h H N b hN _ fun v H2 b2 hv => ⟨by show 1 ≤ sizeLine; decide, fun p hp => q _ _ (b2.tr (bs_new b2 hp)) (TV.new b2 (fun y hy => by rw [List.mem_singleton.mp hy]; exact hv) (by simp) hp)⟩
/-- t[at] -/
theorem dr_ix {k : Nat} {a : Addr} {xs : List V} (hs : σ[i]? = some (some (.ref a))) (h1 : SqT K (rem B dk) a xs) (h3 : ∀ y ∈ xs, IV K dk B y) (hk : ∀ H, Ev tb σ H (nV k)) (hl : k < xs.length) :
    EvDr K B dk L ns σ M 0 (tOp (rIxT K) (tVar i) tb) (IV K dk) := fun H N b hN Q q => ⟨.ref a, hs, hk H H (Ex.refl H) _ fun H2 e2 => by
  have e := exr (b.more e2).ex
  have hx : xs[k]? = some xs[k] := List.getElem?_eq_getElem hl
  exact ⟨a, xs, (k : Int), xs[k], rfl, rfl, ex_t (e.trans rem_ex) h1, atI_nat hx, q _ H2 ((bs_z b).more e2) ((h3 _ (List.getElem_mem hl)).ex e)⟩⟩
/-- t[::-1] -/
theorem dr_rev (h : EvDr K B dk L ns σ M c te fun H v => TV K dk H m v) : EvDr K B dk L ns σ M c (tRevT K te) fun H v => TV K dk H m v := fun H N b hN Q q =>
  h H N b hN _ fun v H2 b2 hv => by
    obtain ⟨a, xs, rfl, s1, l1, i1⟩ := hv
    exact ⟨a, xs, rfl, ex_t rem_ex s1, fun p hp => q _ _ (b2.tr (bs_new b2 hp)) (TV.new b2 (fun y hy => i1 y (List.mem_reverse.mp hy)) (by rw [List.length_reverse]; exact l1) hp)⟩
/-- list(t) -/
theorem dr_list (h : EvDr K B dk L ns σ M c te fun H v => TV K dk H m v) : EvDr K B dk L ns σ M c (tCB (fun xs H Q => ∃ p ys, xs = [.ref p] ∧ (SqL K H p ys ∨ SqT K H p ys) ∧ ∀ l, H l = none → Q (.ref l) (upd H l (.lst ys))) (tCons te tNil)) fun H v => GV K dk H m v := fun H N b hN Q q =>
  h H N b hN _ fun v H2 b2 hv => by
    obtain ⟨a, xs, rfl, s1, l1, i1⟩ := hv
    refine ⟨a, xs, rfl, Or.inr (ex_t rem_ex s1), fun p hp => q _ _ (b2.tr (bs_new b2 hp)) ?_⟩
    have b3 := bs_new (o := .lst xs) b2 hp
    obtain ⟨ds, d1, d2, d3⟩ := all_data i1
    exact ⟨.list ds, .lst (sq_of (new_rem (b2.deck.ne hp))) (dpAll_ex (exr b3.ex) _ d1), Or.inl ⟨ds, Or.inr rfl, by omega, d3⟩⟩
/-- a draw -/
theorem dr_draw {E : XK} {k : Nat} (h1 : ∀ H, Ev ta σ H (.ref dk)) (h2 : ∀ H, Ev tb σ H (nV k)) (hk : 1 ≤ k) (hk2 : k ≤ 1000) (hM : M ≤ 900000000) : EvDr K B dk L ns σ M 1 (tCall spDraw [] E (tCons ta (tCons tb tNil))) (IV K dk) := fun H N b hN Q q =>
  (ev_draw (E := E) (h1 H) (h2 H) b.deck (by omega) hk (by omega)) H (Ex.refl H) Q fun r H2 hr b2 => q (nV r) H2 b2 ⟨natD r, .int _, it_nat (by omega)⟩
/-- one of a list -/
theorem dr_pick {E : XK} (h1 : ∀ H, Ev ta σ H (.ref dk)) (h : EvDr K B dk L ns σ M c tb (LV dk R n)) (hR : Stay dk R) (hn : n ≤ 1000) (hM : M + c ≤ 900000000) : EvDr K B dk L ns σ M (c + 1) (tCall (spOne K) [] E (tCons ta (tCons tb tNil))) R := fun H N b hN Q q =>
  h1 H H (Ex.refl H) _ fun H1 e1 => h H1 N (b.more e1) hN _ fun v H2 b2 hv => by
    obtain ⟨p, xs, rfl, p1, p2, p3, p4, p5⟩ := hv
    refine ⟨dk, L, ns, _, p, xs, rfl, b2.deck, by omega, p2, p1, p3, by omega, fun x H3 hx e3 d3 => ?_⟩
    have b3 : Bs H2 H3 dk L ns (N + (c : Nat) + (1 : Nat)) := ⟨e3, d3, by obtain ⟨a, b, n, d, _⟩ := b2.deck; exact ⟨_, d.at_⟩, by obtain ⟨a, b, n, d, _⟩ := b2.deck; exact ⟨_, d.ls⟩⟩
    exact q x H3 (bs_s (((Bs.rfl b.deck).more e1).tr (b2.tr b3))) (hR _ _ _ (p5 x hx) (exr e3))
/-! displays -/
def AllL (R : Hp → V → Prop) (n : Nat) (H : Hp) (vs : List V) : Prop := vs.length = n ∧ ∀ y ∈ vs, R H y
theorem da_nil : EvDL K B dk L ns σ M 0 tNil (AllL R 0) := fun H N b hN Q q => q [] H (bs_z b) ⟨rfl, fun y hy => by cases hy⟩
theorem da_cons {ta : TA} (hR : Stay dk R) (h1 : EvDr K B dk L ns σ M c1 te R) (h2 : EvDL K B dk L ns σ (M + c1) c2 ta (AllL R n)) : EvDL K B dk L ns σ M (c1 + c2) (tCons te ta) (AllL R (n + 1)) := fun H N b hN Q q =>
  h1 H N b hN _ fun v H2 b2 hv => h2 H2 (N + c1) (b.tr b2) (by omega) _ fun vs H3 b3 hvs => q (v :: vs) H3 (bs_s (b2.tr b3)) ⟨by rw [List.length_cons, hvs.1], fun y hy => by
    rcases List.mem_cons.mp hy with rfl | hy
    · exact hR _ _ _ hv (exr b3.ex)
    · exact hvs.2 y hy⟩
theorem dl_lst {ta : TA} (h : EvDL K B dk L ns σ M c ta (AllL R n)) (hR : Stay dk R) (h1 : 1 ≤ n) (h2 : n ≤ 1000) : EvDr K B dk L ns σ M c (tLst ta) (LV dk R n) := fun H N b hN Q q =>
  h H N b hN _ fun vs H2 b2 hvs => ⟨sz_of (by rw [hvs.1]; omega), fun p hp => q _ _ (b2.tr (bs_new b2 hp)) ⟨p, vs, rfl, b2.deck.ne hp, upd_same, by rw [hvs.1]; exact h1, by rw [hvs.1]; exact Nat.le_refl _, fun y hy => hR _ _ _ (hvs.2 y hy) (exr (bs_new (o := .lst vs) b2 hp).ex)⟩⟩
theorem dl_cat (h1 : EvDr K B dk L ns σ M c1 ta (LV dk R n1)) (h2 : EvDr K B dk L ns σ (M + c1) c2 tb (LV dk R n2)) (hR : Stay dk R) (hn : n1 + n2 ≤ 1000) : EvDr K B dk L ns σ M (c1 + c2) (tOp rCat ta tb) (LV dk R (n1 + n2)) := fun H N b hN Q q =>
  h1 H N b hN _ fun v H2 b2 hv => h2 H2 (N + c1) (b.tr b2) (by omega) _ fun w H3 b3 hw => by
    have b4 := bs_s (b2.tr b3)
    have hv := st_lv hR _ _ _ hv (exr b3.ex)
    obtain ⟨p, xs, rfl, p1, p2, p3, p4, p5⟩ := hv
    obtain ⟨p', ys, rfl, q1, q2, q3, q4, q5⟩ := hw
    refine ⟨p, p', xs, ys, rfl, rfl, p2, q2, sz_of (by omega), fun r hr => q _ _ (b4.tr (bs_new b4 hr)) ⟨r, xs ++ ys, rfl, b4.deck.ne hr, upd_same, by rw [List.length_append]; omega, by rw [List.length_append]; omega, fun y hy => ?_⟩⟩
    have e := exr (bs_new (o := .lst (xs ++ ys)) b4 hr).ex
    rcases List.mem_append.mp hy with hy | hy
    · exact hR _ _ _ (p5 y hy) e
    · exact hR _ _ _ (q5 y hy) e
/-- a plain value -/
theorem dr_ev (h : ∀ H, Ev te σ H v) (hv : ∀ H, R H v) : EvDr K B dk L ns σ M 0 te R := fun H N b hN Q q => h H H (Ex.refl H) _ fun H2 e2 => q v H2 ((bs_z b).more e2) (hv H2)
theorem dr_unit : EvDr K B dk L ns σ M 0 (tTup tNil) fun H v => GV K dk H m v := fun H N b hN Q q => ⟨by show 0 ≤ sizeLine; decide, fun p hp => q _ _ (by
    have b2 := bs_new (o := .tup []) b hp
    rw [show N + ((0 : Nat) : Int) = N by omega]
    exact b2) ⟨.tuple [], .tup (st_of (new_rem (b.deck.ne hp))) .nil, Or.inl ⟨[], Or.inl rfl, Nat.zero_le _, fun x hx => by cases hx⟩⟩⟩
theorem it_t0 : It (.tuple [.int 0]) := ⟨(sm_tup (w := 41) (dp := 0) (n := 1) (fun d hd => by rw [List.mem_singleton.mp hd]; exact sm_int (by decide)) (by simp)).up (by decide) (by decide), rfl, by simp [PyData.depth, PyData.depthAll]⟩
theorem it_l0 : It (.list [.int 0]) := ⟨(sm_lst (w := 41) (dp := 0) (n := 1) (fun d hd => by rw [List.mem_singleton.mp hd]; exact sm_int (by decide)) (by simp)).up (by decide) (by decide), rfl, by simp [PyData.depth, PyData.depthAll]⟩
theorem dr_t0 : EvDr K B dk L ns σ M 0 (tTup (tCons (tC (.int 0)) tNil)) (IV K dk) := fun H N b hN Q q => ⟨by show 1 ≤ sizeLine; decide, fun p hp => q _ _ (by
    have b2 := bs_new (o := .tup [.int 0]) b hp
    rw [show N + ((0 : Nat) : Int) = N by omega]
    exact b2) ⟨.tuple [.int 0], .tup (st_of (new_rem (b.deck.ne hp))) (.cons (.int _) .nil), it_t0⟩⟩
theorem dr_l0 : EvDr K B dk L ns σ M 0 (tLst (tCons (tC (.int 0)) tNil)) (IV K dk) := fun H N b hN Q q => ⟨by show 1 ≤ sizeLine; decide, fun p hp => q _ _ (by
    have b2 := bs_new (o := .lst [.int 0]) b hp
    rw [show N + ((0 : Nat) : Int) = N by omega]
    exact b2) ⟨.list [.int 0], .lst (sq_of (new_rem (b.deck.ne hp))) (.cons (.int _) .nil), it_l0⟩⟩
end
end WR
set_option Elab.async false
set_option linter.all false
set_option maxRecDepth 100000
set_option maxHeartbeats 600000
namespace WR
open PySem PySem.Spec PyProof.Rows L2 Evl

/-! ### _law_bent: a value changed a little -/
def spBent (K : PySem.W.Frag) : Sp := fun vs H Q _ => ∃ dk L ns N x d m, vs = [.ref dk, x] ∧ Dk H dk L ns N ∧ N ≤ 500000000 ∧ Dp K (rem H dk) x d ∧ VD m d ∧ m ≤ 45 ∧
  ∀ r H', Bs H H' dk L ns (N + 5) → GV K dk H' (2 * m + 1) r → Q r H'
abbrev nBe : List Str := ["_law_deck_here", "_law_value", "_law_at", "_law_odd", "_law_some"]
theorem scBe : FnScope nBe ["_law_deck_here", "_law_value"] (defScope s_law_bent) := ⟨rfl, rfl, rfl, by decide +kernel, rfl, by decide +kernel, by decide +kernel⟩
theorem q_dr {K : PySem.W.Frag} {B H : Hp} {dk L : Addr} {ns : List Int} {σ : L2.St} {M N : Int} {c i : Nat} {te : TE} {R : Hp → V → Prop} {tz : TS} {D : Ends} (h : EvDr K B dk L ns σ M c te R) (b : Bs B H dk L ns N) (hN : N ≤ M)
    (k : ∀ v H2, Bs H H2 dk L ns (N + c) → R H2 v → tz D (σ.set i (some v)) H2) : tSeq (tAsg te (gName i)) tz D σ H := h H N b hN _ fun v H2 b2 hv => k v H2 b2 hv
theorem r_dr {K : PySem.W.Frag} {B H : Hp} {dk L : Addr} {ns : List Int} {σ : L2.St} {M N : Int} {c : Nat} {te : TE} {R : Hp → V → Prop} {D : Ends} (h : EvDr K B dk L ns σ M c te R) (b : Bs B H dk L ns N) (hN : N ≤ M)
    (k : ∀ v H2, Bs H H2 dk L ns (N + c) → R H2 v → D.rt v H2) : tRet te D σ H := h H N b hN _ fun v H2 b2 hv => k v H2 b2 hv
theorem iv_of {K : PySem.W.Frag} {dk : Addr} {H : Hp} {xs : List V} {ds : List PyData} (hd : DpAll K (rem H dk) xs ds) (hi : ∀ x ∈ ds, It x) : ∀ y ∈ xs, IV K dk H y := fun y hy => by
  obtain ⟨i, hi', e⟩ := List.mem_iff_getElem.mp hy
  obtain ⟨d, d1, d2⟩ := dpAll_at hd (i := i) (v := y) (by rw [List.getElem?_eq_getElem hi', e])
  exact ⟨d, d2, hi d (List.mem_of_getElem? d1)⟩
section
variable {P : Program} {w : World} {K : PySem.W.Frag} {mg : Str → Option Value} {base : Heap}
theorem ok_bent {f fW fO : Addr} {fd fdW fdO : FuncData} (F : Fun K "_law_bent" "_law_bent" s_law_bent f fd)
    (FW : Fun K "_law_draw" "_law_draw" sDraw fW fdW) (bW : Binds K fdW ["_law_deck_here", "_law_many"] []) (gW : mg "_law_draw" = some (.ref fW))
    (FO : Fun K "_law_one" "_law_one" sOne fO fdO) (bO : Binds K fdO ["_law_deck_here", "_law_items"] []) (gO : mg "_law_one" = some (.ref fO))
    (m1 : mg "isinstance" = none) (m2 : mg "tuple" = none) (m3 : mg "len" = none) (m4 : mg "list" = none)
    (GW : FnOk P w K mg base CX0 1 fW fdW ["_law_deck_here", "_law_many"] spDraw)
    (GO : FnOk P w K mg base CX0 2 fO fdO ["_law_deck_here", "_law_items"] (spOne K)) :
    FnOk P w K mg base CX0 3 f fd ["_law_deck_here", "_law_value"] (spBent K) := by
  refine F.ok scBe (fun vs H Q E h => ?_) (fun cdv A outer s H vs Q E hr h => ?_)
  · obtain ⟨dk, L, ns, N, x, d, m, rfl, _⟩ := h
    rfl
  obtain ⟨dk, L, ns, N, x, d, m, rfl, hD, hN, hx, hV, hm, q⟩ := h
  have hu := hr.units
  have r1 := hr.mono (show 1 ≤ 2 by decide)
  apply Exists.intro
  apply And.intro
  case left =>
    refine' pss_cons (ps_if (pw_or (pt_not (pt_val (pe_callB call_isi (by rfl) m1 (by decide +kernel) (pa_cons (pv 1) (pa_cons (pe_bltn (by rfl) m2 (by decide +kernel) (v := .ty "tuple") rfl) pa_nil))))) (pw_or1 (pt_cmpR (op_eqD hu) (pv 1) (pe_tup pa_nil) (nomark _)))).pt (pss_one (ps_ret (pv 1))) pss_nil) ?r0
    case' r0 => skip
    refine' pss_cons (ps_par (i := 2) (j := 3) rfl scBe.nd rfl rfl (by decide) rfl rfl (pa_cons (pe_call GW r1 (by rfl) gW FW.kp bW .nil pass0 (pa_cons (pv 0) (pa_cons (pe_callB call_len_seq (by rfl) m3 PySem.boot_len (pa_cons (pv 1) pa_nil)) pa_nil)))
      (pa_cons (pe_lst (pa_cons pe_non (pa_cons pe_bl (pa_cons pe_bl (pa_cons (pe_un un_neg pe_int) (pa_cons pe_int (pa_cons pe_str (pa_cons (pe_tup (pa_cons pe_int pa_nil)) (pa_cons (pe_lst (pa_cons pe_int pa_nil)) (pa_cons (pe_op op_pow pe_int pe_int) pa_nil)))))))))) pa_nil)) rfl) ?r1
    case' r1 => skip
    refine' pss_cons (ps_set (i := 4) scBe.nd rfl (.inl rfl) (pe_lst (pa_cons (pe_op op_catA (pe_slice sl_tupA (pv 1) po_none (po_some (pv 2))) (pe_slice sl_tupA (pv 1) (po_some (pe_op op_add (pv 2) pe_int)) po_none))
      (pa_cons (pe_op op_catA (pe_op op_catA (pe_slice sl_tupA (pv 1) po_none (po_some (pv 2))) (pe_tup (pa_cons (pe_ix (r := rIxT K) ix_tup (pv 1) (pv 2) (fun _ _ => rfl)) pa_nil))) (pe_slice sl_tupA (pv 1) (po_some (pv 2)) po_none))
      (pa_cons (pe_revT (pv 1)) (pa_cons (pe_callTy call_list_of (by rfl) m4 (by decide +kernel) (pa_cons (pv 1) pa_nil)) pa_nil)))))) ?r2
    case' r2 => skip
    refine' pss_cons (ps_set (i := 4) scBe.nd rfl (.inl rfl) (pe_op op_cat (pv 4) (pe_lst
      (pa_cons (pe_op op_catA (pe_op op_catA (pe_slice sl_tupA (pv 1) po_none (po_some (pv 2))) (pe_tup (pa_cons (pe_call GO hr (by rfl) gO FO.kp bO .nil pass0 (pa_cons (pv 0) (pa_cons (pv 3) pa_nil))) pa_nil))) (pe_slice sl_tupA (pv 1) (po_some (pe_op op_add (pv 2) pe_int)) po_none))
      (pa_cons (pe_op op_catA (pv 1) (pe_tup (pa_cons (pe_call GW r1 (by rfl) gW FW.kp bW .nil pass0 (pa_cons (pv 0) (pa_cons pe_int pa_nil))) pa_nil))) pa_nil))))) ?r3
    case' r3 => skip
    exact pss_one (ps_ret (pe_call GO hr (by rfl) gO FO.kp bO .nil pass0 (pa_cons (pv 0) (pa_cons (pe_op op_cat (pv 4) (pe_lst
      (pa_cons (pe_op op_catA (pe_op op_catA (pe_slice sl_tupA (pv 1) po_none (po_some (pv 2))) (pe_tup (pa_cons (pe_call GW r1 (by rfl) gW FW.kp bW .nil pass0 (pa_cons (pv 0) (pa_cons pe_int pa_nil))) pa_nil))) (pe_slice sl_tupA (pv 1) (po_some (pe_op op_add (pv 2) pe_int)) po_none))
      (pa_cons pe_non (pa_cons (pe_tup pa_nil) (pa_cons pe_str (pa_cons (pe_slice sl_tupA (pv 1) po_none (po_some pe_int)) pa_nil))))))) pa_nil))))
  case right =>
    let S (x2 x3 x4 : Option V) : L2.St := [some (.ref dk), some x, x2, x3, x4]
    show tSeq (tIfS _ _ _) _ _ (S none none none) H
    have hsh := hV.sh
    have hxH : Dp K H x d := dp_ex rem_ex _ hx
    have back : ∀ H2, Ex H H2 → Q x H2 := fun H2 e2 => q x H2 (((Bs.rfl hD).more e2).wk (by omega)) ⟨d, dp_ex (exr (rem_ex.trans e2)) _ hx, hV.up (by omega)⟩
    by_cases ht : isTup d = false
    · refine q_when (b := (!false) || true) (et_or (et_not (et_B (ev_isi (ed_var rfl hxH) (by rw [kit_tup, ht])))) fun z => by cases z) (fun _ H1 e1 => ?_) fun z => by cases z
      exact s_ret (v := x) (ev_var rfl) fun H2 e2 => back H2 (e1.trans e2)
    obtain ⟨ds, rfl⟩ : ∃ ds, d = .tuple ds := by
      cases d with
      | tuple ds => exact ⟨ds, rfl⟩
      | _ => exact absurd rfl ht
    obtain ⟨hl, hi⟩ : ds.length ≤ m ∧ ∀ x ∈ ds, It x := by
      rcases hV with ⟨ds', e | e, a, b⟩ | e | e <;> cases e
      exact ⟨a, b⟩
    refine q_when (b := (!true) || ds.isEmpty) (et_or (et_not (et_B (ev_isi (ed_var rfl hxH) (kit_tup (.tuple ds))))) fun _ => et_eqNilS (ed_var rfl hxH) hsh) (fun z H1 e1 => ?_) fun z H1 e1 => ?_
    · exact s_ret (v := x) (ev_var rfl) fun H2 e2 => back H2 (e1.trans e2)
    have hne : ds.isEmpty = false := by simpa using z
    have hpos : 1 ≤ ds.length := by
      cases ds with
      | nil => cases hne
      | cons _ _ => simp
    clear back
    have b1 := (Bs.rfl hD).more e1
    have hx1 := dp_ex e1 _ hxH
    show tSeq (tPar _ _ _) _ _ (S none none none) H1
    refine (ev_draw (m := ds.length) (ev_var rfl) (ed_lenT (K := K) (ds := ds) (ed_var rfl hx1)) b1.deck (by omega) hpos (by omega)) H1 (Ex.refl H1) _ fun at_ H2 hat b12 => ?_
    have b2 := b1.tr b12
    have hOdd := dl_lst (K := K) (dk := dk) (L := L) (ns := ns) (B := H2) (σ := S none none none) (M := 600000000)
      (da_cons st_iv (dr_ev (v := .non) (fun _ => ev_c) fun _ => ⟨.none, by constructor, ⟨sm_none.up (by decide) (by decide), rfl, by decide +kernel⟩⟩)
      (da_cons st_iv (dr_ev (v := .bl true) (fun _ => ev_c) fun _ => ⟨.bool true, by constructor, ⟨sm_bool.up (by decide) (by decide), rfl, by decide +kernel⟩⟩)
      (da_cons st_iv (dr_ev (v := .bl false) (fun _ => ev_c) fun _ => ⟨.bool false, by constructor, ⟨sm_bool.up (by decide) (by decide), rfl, by decide +kernel⟩⟩)
      (da_cons st_iv (dr_ev (v := .int (-1)) (fun _ => ev_un ev_c ru_neg) fun _ => ⟨.int (-1), by constructor, it_int (by decide)⟩)
      (da_cons st_iv (dr_ev (v := .int 99) (fun _ => ev_c) fun _ => ⟨.int 99, by constructor, it_int (by decide)⟩)
      (da_cons st_iv (dr_ev (v := .str "1") (fun _ => ev_c) fun _ => ⟨.str "1", by constructor, ⟨⟨by decide +kernel, by decide +kernel, by decide +kernel, Nat.le_trans (show PyData.weight (.str "1") ≤ 100 by decide +kernel) (by decide), Nat.le_trans (show PyData.depth (.str "1") ≤ 0 by decide +kernel) (by decide)⟩, by decide +kernel, by decide +kernel⟩⟩)
      (da_cons st_iv dr_t0
      (da_cons st_iv dr_l0
      (da_cons st_iv (dr_ev (te := tOp (rI CPow fun i j => .int (i ^ j.toNat)) (tC (.int 10)) (tC (.int 35))) (v := .int (10 ^ 35)) (fun _ => ev_is (ev_op ev_c ev_c (rv_I ⟨by decide, by decide, by decide⟩)) (congrArg V.int (by decide +kernel))) fun _ => ⟨.int (10 ^ 35), by constructor, it_int (by decide +kernel)⟩) da_nil))))))))) st_iv (by decide) (by decide)
    refine hOdd H2 (N + 1) (Bs.rfl b12.deck) (by omega) _ fun vo H3 b23 ho => ⟨_, _, rfl, ?_⟩
    have b3 := b2.tr b23
    obtain ⟨ax, xs, rfl, t1, td⟩ := dp_tup (dp_ex (exr b3.ex) _ hx)
    have hxl : xs.length = ds.length := dpAll_len td
    have t3 : ∀ y ∈ xs, IV K dk H3 y := iv_of td hi
    have t2 : xs.length ≤ m := by omega
    dsimp only
    show tSeq (tAsg _ _) _ _ (S (some (nV at_)) (some vo) none) H3
    have hT3 : TV K dk H3 m (.ref ax) := ⟨ax, xs, rfl, t1, t2, t3⟩
    have h4 := dl_lst (K := K) (dk := dk) (L := L) (ns := ns) (B := H3) (σ := S (some (nV at_)) (some vo) none) (M := 600000000) (R := fun H v => GV K dk H (2 * m + 1) v)
      (da_cons st_gv (dr_map (dr_cat (dr_sl (lo := none) (hi := some (at_ : Int)) (dr_var (i := 1) rfl hT3 st_tv) pt_no (pt_i fun _ => ev_var (i := 2) rfl)) (dr_sl (lo := some ((at_ : Int) + 1)) (hi := none) (dr_var (i := 1) rfl hT3 st_tv) (pt_i (te := tOp (rI0 fun i j => .int (i + j)) (tVar 2) (tC (.int 1))) fun _ => ev_op (ev_var (i := 2) rfl) ev_c rv_I0) pt_no) (by omega)) fun H v h => h.gv.up (by omega))
      (da_cons st_gv (dr_map (dr_cat (dr_cat (dr_sl (lo := none) (hi := some (at_ : Int)) (dr_var (i := 1) rfl hT3 st_tv) pt_no (pt_i fun _ => ev_var (i := 2) rfl)) (dr_one (dr_ix (i := 1) (k := at_) (tb := tVar 2) rfl t1 t3 (fun _ => ev_var (i := 2) rfl) (by omega))) (by omega)) (dr_sl (lo := some (at_ : Int)) (hi := none) (dr_var (i := 1) rfl hT3 st_tv) (pt_i fun _ => ev_var (i := 2) rfl) pt_no) (by omega)) fun H v h => h.gv.up (by omega))
      (da_cons st_gv (dr_map (dr_rev (dr_var (i := 1) rfl hT3 st_tv)) fun H v h => h.gv.up (by omega))
      (da_cons st_gv (dr_map (dr_list (dr_var (i := 1) rfl hT3 st_tv)) fun H v h => h.up (by omega)) da_nil)))) st_gv (by decide) (by decide)
    refine q_dr h4 (Bs.rfl b3.deck) (by omega) fun v4 H4 b34 hs4 => ?_
    have b4 := b3.tr b34
    have hT4 := hT3.ex (exr b34.ex)
    have ho4 := st_lv st_iv _ _ _ ho (exr b34.ex)
    show tSeq (tAsg _ _) _ _ (S (some (nV at_)) (some vo) (some v4)) H4
    have h5 := dl_cat (K := K) (dk := dk) (L := L) (ns := ns) (B := H4) (σ := S (some (nV at_)) (some vo) (some v4)) (M := 600000000) (R := fun H v => GV K dk H (2 * m + 1) v) (dr_var (i := 4) rfl hs4 (st_lv st_gv)) (dl_lst
      (da_cons st_gv (dr_map (dr_cat (dr_cat (dr_sl (lo := none) (hi := some (at_ : Int)) (dr_var (i := 1) rfl hT4 st_tv) pt_no (pt_i fun _ => ev_var (i := 2) rfl)) (dr_one (dr_pick (E := E0) (fun _ => ev_var (i := 0) rfl) (dr_var (i := 3) rfl ho4 (st_lv st_iv)) st_iv (by decide) (by omega))) (by omega)) (dr_sl (lo := some ((at_ : Int) + 1)) (hi := none) (dr_var (i := 1) rfl hT4 st_tv) (pt_i (te := tOp (rI0 fun i j => .int (i + j)) (tVar 2) (tC (.int 1))) fun _ => ev_op (ev_var (i := 2) rfl) ev_c rv_I0) pt_no) (by omega)) fun H v h => h.gv.up (by omega))
      (da_cons st_gv (dr_map (dr_cat (dr_var (i := 1) rfl hT4 st_tv) (dr_one (dr_draw (E := E0) (k := 12) (fun _ => ev_var (i := 0) rfl) (fun _ => ev_c) (by decide) (by decide) (by omega))) (by omega)) fun H v h => h.gv.up (by omega)) da_nil)) st_gv (by decide) (by decide)) st_gv (by decide)
    refine q_dr h5 (Bs.rfl b4.deck) (by omega) fun v5 H5 b45 hs5 => ?_
    have b5 := b4.tr b45
    have hT5 := hT4.ex (exr b45.ex)
    show tRet _ _ (S (some (nV at_)) (some vo) (some v5)) H5
    have h6 := dr_pick (K := K) (dk := dk) (L := L) (ns := ns) (B := H5) (σ := S (some (nV at_)) (some vo) (some v5)) (M := 600000000) (E := E0) (R := fun H v => GV K dk H (2 * m + 1) v) (ta := tVar 0) (fun _ => ev_var (i := 0) rfl) (dl_cat (dr_var (i := 4) rfl hs5 (st_lv st_gv)) (dl_lst
      (da_cons st_gv (dr_map (dr_cat (dr_cat (dr_sl (lo := none) (hi := some (at_ : Int)) (dr_var (i := 1) rfl hT5 st_tv) pt_no (pt_i fun _ => ev_var (i := 2) rfl)) (dr_one (dr_draw (E := E0) (k := 12) (fun _ => ev_var (i := 0) rfl) (fun _ => ev_c) (by decide) (by decide) (by omega))) (by omega)) (dr_sl (lo := some ((at_ : Int) + 1)) (hi := none) (dr_var (i := 1) rfl hT5 st_tv) (pt_i (te := tOp (rI0 fun i j => .int (i + j)) (tVar 2) (tC (.int 1))) fun _ => ev_op (ev_var (i := 2) rfl) ev_c rv_I0) pt_no) (by omega)) fun H v h => h.gv.up (by omega))
      (da_cons st_gv (dr_ev (v := .non) (fun _ => ev_c) fun _ => ⟨.none, by constructor, Or.inr (Or.inl rfl)⟩)
      (da_cons st_gv dr_unit
      (da_cons st_gv (dr_ev (v := .str "") (fun _ => ev_c) fun _ => ⟨.str "", by constructor, Or.inr (Or.inr rfl)⟩)
      (da_cons st_gv (dr_map (dr_sl (lo := none) (hi := some (1 : Int)) (dr_var (i := 1) rfl hT5 st_tv) pt_no (pt_i fun _ => ev_c)) fun H v h => h.gv.up (by omega)) da_nil))))) st_gv (by decide) (by decide)) st_gv (by decide)) st_gv (by decide) (by omega)
    refine r_dr h6 (Bs.rfl b5.deck) (by omega) fun r H6 b56 hr6 => ?_
    have b6 := b5.tr b56
    exact q r H6 (b6.wk (by omega)) hr6
end
end WR
set_option Elab.async false
set_option linter.all false
set_option maxRecDepth 100000
set_option maxHeartbeats 1000000
namespace WR
open PySem PySem.Spec PyProof.Rows L2 Evl

/-! ### _law_way: a drawn way -/
def spWy (K : PySem.W.Frag) : Sp := fun vs H Q _ => ∃ dk L ns N p rs l inner, vs = [.ref dk, .ref p] ∧ Dk H dk L ns N ∧ N ≤ 500000000 ∧ KdAt (rem H dk) p rs (kkOf l inner) ∧ Raw l inner ∧
  ∀ r H' W, Bs H H' dk L ns (N + 20) → Dp K (rem H' dk) r (kidsD W) → W.length ≤ 10 → (∀ c ∈ W, c < l + inner.length) → Q r H'
abbrev nWy : List Str := ["_law_deck_here", "_law_kids_here", "_law_found", "_law_turn"]
theorem scWy : FnScope nWy ["_law_deck_here", "_law_kids_here"] (defScope s_law_way) := ⟨rfl, rfl, rfl, by decide +kernel, rfl, by decide +kernel, by decide +kernel⟩
section
variable {P : Program} {w : World} {K : PySem.W.Frag} {mg : Str → Option Value} {base : Heap}
theorem ok_wy {f fW fO : Addr} {fd fdW fdO : FuncData} (F : Fun K "_law_way" "_law_way" s_law_way f fd)
    (FW : Fun K "_law_draw" "_law_draw" sDraw fW fdW) (bW : Binds K fdW ["_law_deck_here", "_law_many"] []) (gW : mg "_law_draw" = some (.ref fW))
    (FO : Fun K "_law_one" "_law_one" sOne fO fdO) (bO : Binds K fdO ["_law_deck_here", "_law_items"] []) (gO : mg "_law_one" = some (.ref fO))
    (m1 : mg "range" = none) (m2 : mg "tuple" = none) (m3 : mg "len" = none)
    (GW : FnOk P w K mg base CX0 1 fW fdW ["_law_deck_here", "_law_many"] spDraw)
    (GO : FnOk P w K mg base CX0 2 fO fdO ["_law_deck_here", "_law_items"] (spOne K)) :
    FnOk P w K mg base CX0 3 f fd ["_law_deck_here", "_law_kids_here"] (spWy K) := by
  refine F.ok scWy (fun vs H Q E h => ?_) (fun cdv A outer s H vs Q E hr h => ?_)
  · obtain ⟨dk, L, ns, N, p, rs, l, inner, rfl, _⟩ := h
    rfl
  obtain ⟨dk, L, ns, N, p, rs, l, inner, rfl, hD, hN, hK, hw, q⟩ := h
  have hu := hr.units
  have r1 := hr.mono (show 1 ≤ 2 by decide)
  refine ⟨_, pss_cons (ps_set (i := 2) scWy.nd rfl (.inl rfl) (pe_lst (pa_cons (pe_call GO hr (by rfl) gO FO.kp bO .nil pass0 (pa_cons (pv 0) (pa_cons (pe_lst (pa_cons (pe_op op_sub (pe_callB (r := rLenS K) call_len_seq (by rfl) m3 PySem.boot_len (pa_cons (pv 1) pa_nil)) pe_int)
      (pa_cons (pe_call GW r1 (by rfl) gW FW.kp bW .nil pass0 (pa_cons (pv 0) (pa_cons (pe_callB (r := rLenS K) call_len_seq (by rfl) m3 PySem.boot_len (pa_cons (pv 1) pa_nil)) pa_nil))) pa_nil))) pa_nil))) pa_nil)))
    (pss_cons (ps_for PassesOwn.never rfl (pi_range1 (by rfl) m1 (pa_cons (pe_call GW r1 (by rfl) gW FW.kp bW .nil pass0 (pa_cons (pv 0) (pa_cons pe_int pa_nil))) pa_nil)) (pg_name (i := 3) scWy.nd rfl (.inl rfl))
      (pss_one (ps_if (pt_cmpR (op_neD hu) (pe_ix (r := rIxL K) ix_list (pv 1) (pe_ix (r := rIxL K) ix_list (pv 2) (pe_un un_neg pe_int) (fun _ _ => rfl)) (fun _ _ => rfl)) (pe_lst pa_nil) (nomark _))
        (pss_one (ps_expr (pe_bm PySem.F.plainAttrs_list PySem.F.slot_list_append PySem.F.type_list_append mt_append (pv 2) (pa_cons (pe_call GO hr (by rfl) gO FO.kp bO .nil pass0 (pa_cons (pv 0) (pa_cons
          (pe_ix (r := rIxL K) ix_list (pv 1) (pe_ix (r := rIxL K) ix_list (pv 2) (pe_un un_neg pe_int) (fun _ _ => rfl)) (fun _ _ => rfl)) pa_nil))) pa_nil)))) pss_nil)))
    (pss_one (ps_ret (pe_callTy call_tuple_of (by rfl) m2 (by decide +kernel) (pa_cons (pv 2) pa_nil))))), ?_⟩
  have h1 := hw.l1
  have h8 := hw.l8
  have h20 := hw.n20
  obtain ⟨n, en⟩ : ∃ n, n = l + inner.length := ⟨_, rfl⟩
  have hkn : (kkOf l inner).length = n := by rw [kkOf_len, en]
  let S (x2 x3 : Option V) : L2.St := [some (.ref dk), some (.ref p), x2, x3]
  have kdE : ∀ {H' : Hp} {M : Int}, Bs H H' dk L ns M → KdAt H' p rs (kkOf l inner) := fun b => (hK.ex (exr b.ex)).ex rem_ex
  have lenE : ∀ {σ' : L2.St} {H' : Hp} {M : Int}, σ'[1]? = some (some (.ref p)) → Bs H H' dk L ns M → Ev (tCB (rLenS K) (tCons (tVar 1) tNil)) σ' H' (nV n) := fun h b =>
    ev_is (ev_len (K := K) (ev_var h) (sq_of (kdE b).at_)) (by rw [List.length_map, hK.len, hkn]; rfl)
  show tSeq (tAsg _ _) _ _ (S none none) H
  have hKV : Stay dk fun (_ : Hp) (v : V) => ∃ c, v = nV c ∧ c < n := fun _ _ _ h _ => h
  have hF : EvDr K H dk L ns (S none none) 600000000 (0 + (1 + 0) + 1) (tCall (spOne K) [] E0 (tCons (tVar 0) (tCons (tLst (tCons (tOp (rI0 fun i j => .int (i - j)) (tCB (rLenS K) (tCons (tVar 1) tNil)) (tC (.int 1))) (tCons (tCall spDraw [] E0 (tCons (tVar 0) (tCons (tCB (rLenS K) (tCons (tVar 1) tNil)) tNil))) tNil))) tNil))) fun _ v => ∃ c, v = nV c ∧ c < n :=
    dr_pick (fun _ => ev_var rfl) (dl_lst (da_cons hKV (fun H' M b hM Q q => (ev_is (ev_op (lenE rfl b) ev_c rv_I0) (by show V.int _ = V.int _; congr 1; omega) : Ev _ _ H' (nV (n - 1))) H' (Ex.refl H') _ fun H2 e2 => q (nV (n - 1)) H2 ((bs_z b).more e2) ⟨n - 1, rfl, by omega⟩)
      (da_cons hKV (c1 := 1) (fun H' M b hM Q q => (ev_draw (E := E0) (ev_var (i := 0) rfl) (lenE rfl b) b.deck (by omega) (by omega) (by omega)) H' (Ex.refl H') Q fun r H2 hr b2 => q (nV r) H2 b2 ⟨r, rfl, hr⟩) da_nil)) hKV (by decide) (by decide)) hKV (by decide) (by decide)
  refine hF H N (Bs.rfl hD) (by omega) _ fun v H2 b2 hv => ⟨by show 1 ≤ sizeLine; decide, fun pf hpf => ?_⟩
  obtain ⟨c, rfl, hc⟩ := hv
  have hpfH : H pf = none := b2.new hpf
  have hpfd : pf ≠ dk := hD.ne hpfH
  have b3 := b2.tr (bs_new (o := .lst [nV c]) b2 hpf)
  have hp3 : upd H2 pf (.lst [nV c]) pf = some (.lst (nVs [c])) := upd_same
  generalize upd H2 pf (.lst [nV c]) = H3 at b3 hp3
  dsimp only [gName]
  show tSeq (tFor _ _ _) _ _ (S (some (.ref pf)) none) H3
  refine (ev_draw (m := 9) (ev_var rfl) ev_c b3.deck (by omega) (by decide) (by decide)) H3 (Ex.refl H3) _ fun r H4 hr4 b34 => ?_
  have b4 := b3.tr b34
  have hp4 : H4 pf = some (.lst (nVs [c])) := b34.ex _ _ (by rw [rem_ne hpfd]; exact hp3)
  refine ⟨(r : Int), rfl, by omega, by omega, for_range (lo := 0) (n := ((r : Int)).toNat) (fun i σ' H' => ∃ W x3, σ' = S (some (.ref pf)) x3 ∧ Bs H H' dk L ns (N + 3 + i) ∧ H' pf = some (.lst (nVs W)) ∧ W ≠ [] ∧ W.length ≤ i + 1 ∧ ∀ c ∈ W, c < n)
    ⟨[c], none, rfl, b4.wk (by omega), hp4, by simp, by simp, fun y hy => by rw [List.mem_singleton.mp hy]; exact hc⟩ (fun i σ' H' hi hP => ?_) fun σ' H' hP => ?_⟩
  · obtain ⟨W, x3, rfl, b5, hp5, hne, hlen, hlt⟩ := hP
    rcases List.eq_nil_or_concat W with e | ⟨W', u, e⟩
    · exact absurd e hne
    rw [List.concat_eq_append] at e
    subst e
    have hun : u < n := hlt u (by simp)
    have hi9 : i < 9 := by omega
    have rowE : ∀ {σ' : L2.St} {H6 : Hp} {M : Int}, σ'[1]? = some (some (.ref p)) → σ'[2]? = some (some (.ref pf)) → Bs H H6 dk L ns M → H6 pf = some (.lst (nVs (W' ++ [u]))) → ∃ rr, H6 rr = some (.lst (nVs (rowAt (kkOf l inner) u))) ∧ rr ≠ dk ∧ Ev (tOp (rIxL K) (tVar 1) (tOp (rIxL K) (tVar 2) (tUn (rU fun i => .int (-i)) (tC (.int 1))))) σ' H6 (.ref rr) := fun h1 h2 b hp6 => by
      have hK6 := hK.ex (exr b.ex)
      obtain ⟨rr, g1, g2⟩ := hK6.get (rowAt_get (show u < (kkOf l inner).length by omega))
      have hrd : rr ≠ dk := fun z => by
        rw [z, rem_self] at g2
        cases g2
      refine ⟨rr, by have g3 := g2; rw [rem_ne hrd] at g3; exact g3, hrd, ev_row (kdE b) g1 (ev_var h1) (ev_lastL (K := K) (ev_var h2) hp6)⟩
    obtain ⟨rr, g1, g2, g3⟩ := rowE (σ' := (S (some (.ref pf)) x3).set 3 (some (nV (0 + i)))) rfl rfl b5 hp5
    have hshp : ∀ ks : List Nat, SeqAt.shaped (.list (natDs ks)) = true := fun ks => by
      have e : natDs ks = (ks.map fun (k : Nat) => (k : Int)).map PyData.int := by
        unfold natDs
        rw [List.map_map]
        rfl
      rw [e]
      exact shaped_ints _
    refine s_if (b := !(natDs (rowAt (kkOf l inner) u)).isEmpty) (et_neNilS (K := K) (ed_ev g3 (.lst (sq_of g1) (dpAll_nat _))) (hshp _)) (fun hb H6 e6 => ?_) fun hb H6 e6 => ?_
    · have b6 := b5.more e6
      have hp6 := e6 _ _ hp5
      obtain ⟨rr6, k1, k2, k3⟩ := rowE (σ' := (S (some (.ref pf)) x3).set 3 (some (nV (0 + i)))) rfl rfl b6 hp6
      have hks : rowAt (kkOf l inner) u ≠ [] := fun z => by
        rw [z] at hb
        cases hb
      have hlt2 : ∀ c' ∈ rowAt (kkOf l inner) u, c' < n := fun c' hc' => by
        rw [rowAt_kk] at hc'
        have := (kidsAt_lt hw hc').1
        omega
      have hk40 : (rowAt (kkOf l inner) u).length ≤ 40 := by
        rw [rowAt_kk]
        have := kl30 hw (k := u)
        omega
      refine ⟨.ref pf, rfl, .inl ⟨rfl, _, sq_of hp6⟩, .ref dk, rfl, k3 H6 (Ex.refl H6) _ fun H7 e7 => ?_⟩
      have b7 := b6.more e7
      refine ⟨dk, L, ns, _, rr6, _, rfl, b7.deck, by omega, e7 _ _ k1, k2, ?_, by unfold nVs; rw [List.length_map]; omega, fun x H8 hx e8 d8 => ?_⟩
      · unfold nVs
        rw [List.length_map]
        cases hh : rowAt (kkOf l inner) u with
        | nil => exact absurd hh hks
        | cons _ _ => simp
      obtain ⟨c', hc', rfl⟩ := List.mem_map.mp hx
      have b8 : Bs H H8 dk L ns (N + 3 + i + 1) := b7.draw e8 d8
      have hp8 : H8 pf = some (.lst (nVs (W' ++ [u]))) := e8 _ _ (by rw [rem_ne hpfd]; exact e7 _ _ hp6)
      refine ⟨pf, _, nV c', rfl, rfl, hp8, sz_lt (by unfold nVs; rw [List.length_map]; omega), ?_⟩
      refine ⟨W' ++ [u] ++ [c'], _, rfl, (b8.upd hpfH).wk (by omega), ?_, by simp, by rw [List.length_append, List.length_singleton]; omega, fun y hy => ?_⟩
      · have : nVs (W' ++ [u]) ++ [nV c'] = nVs (W' ++ [u] ++ [c']) := by
          unfold nVs
          rw [List.map_append (l₁ := W' ++ [u])]
          rfl
        rw [← this]
        exact upd_same
      · rcases List.mem_append.mp hy with hy | hy
        · exact hlt y hy
        · rw [List.mem_singleton.mp hy]
          exact hlt2 c' hc'
    · exact ⟨W' ++ [u], _, rfl, (b5.more e6).wk (by omega), e6 _ _ hp5, hne, by omega, hlt⟩
  · obtain ⟨W, x3, rfl, b5, hp5, hne, hlen, hlt⟩ := hP
    dsimp only
    show tRet _ _ (S (some (.ref pf)) x3) H'
    refine ⟨.ref pf, rfl, pf, nVs W, rfl, .inl ⟨sq_of hp5, fun t ht => ?_⟩⟩
    have b6 := b5.tr (bs_new (o := .tup (nVs W)) b5 ht)
    refine q _ _ W (b6.wk (by omega)) ?_ (by omega) (by rw [← en]; exact hlt)
    exact .tup (st_of (new_rem (b5.deck.ne ht))) (dpAll_nat W)
end
end WR
set_option Elab.async false
set_option linter.all false
set_option maxRecDepth 100000
set_option maxHeartbeats 1000000
namespace WR
open PySem PySem.Spec PyProof.Rows L2 Evl
def spListsK (K : PySem.W.Frag) : Sp := fun vs H Q _ => ∃ v l inner, vs = [v] ∧ Dp K H v (webD l inner) ∧ Raw l inner ∧
  ∀ p rs H', Ex H H' → Kds H H' p rs (List.replicate l [] ++ inner) → Q (.ref p) H'
abbrev nLists : List Str := ["_law_web_here", "_law_leaf", "_law_some"]
theorem scLists : FnScope nLists ["_law_web_here"] (defScope sLists) := ⟨rfl, rfl, rfl, by decide +kernel, rfl, by decide +kernel, by decide +kernel⟩
section
variable {P : Program} {w : World} {K : PySem.W.Frag} {mg : Str → Option Value} {base : Heap}
theorem ok_listsK {f : Addr} {fd : FuncData} (F : Fun K "_law_lists" "_law_lists" sLists f fd) (m1 : mg "range" = none) (m2 : mg "list" = none) :
    FnOk P w K mg base CX0 1 f fd ["_law_web_here"] (spListsK K) := by
  refine F.ok scLists (fun vs H Q E h => ?_) (fun cdv A outer s H vs Q E hr h => ?_)
  · obtain ⟨v, l, inner, rfl, _⟩ := h
    rfl
  obtain ⟨v, l, inner, rfl, hv, hw, q⟩ := h
  refine ⟨_, pss_one (ps_ret (pe_op op_cat (pe_lc (own := [("_law_leaf", 1)]) (g := gName 1) (tt := tYes) (te := tLst tNil) rfl scLists.nd (pi_range1 (by rfl) m1 (pa_cons (pe_ix (r := rIxT K) ix_tup (pv 0) pe_int (fun _ _ => rfl)) pa_nil)) (blkOk_by (N := nLists) (sc := defScope sLists) (by decide +kernel))
      (fun _ _ _ _ _ => pg_name (i := 1) scLists.nd rfl (Or.inl rfl)) (fun _ _ _ _ _ => pts_nil) (fun _ _ _ _ _ => pe_lst pa_nil))
    (pe_lc (own := [("_law_some", 2)]) (g := gName 2) (tt := tYes) (te := tCB (fun xs H Q => ∃ p ys, xs = [.ref p] ∧ (SqL K H p ys ∨ SqT K H p ys) ∧ ∀ l, H l = none → Q (.ref l) (upd H l (.lst ys))) (tCons (tVar 2) tNil)) rfl scLists.nd (pi_tup (pe_ix (r := rIxT K) ix_tup (pv 0) pe_int (fun _ _ => rfl))) (blkOk_by (N := nLists) (sc := defScope sLists) (by decide +kernel))
      (fun _ _ _ _ _ => pg_name (i := 2) scLists.nd rfl (Or.inl rfl)) (fun _ _ _ _ _ => pts_nil) (fun _ _ _ _ _ => pe_callTy call_list_of (by rfl) m2 (by decide +kernel) (pa_cons (pv 2) pa_nil))))), ?_⟩
  have h1 := hw.l1
  have h8 := hw.l8
  have h20 := hw.n20
  have hA : EvA (tCons (tOp (rIxT K) (tVar 0) (tC (.int 0))) tNil) (start nLists [v]) H [.int (l : Int)] := ea_cons (ev_i (K := K) (ed_ixT (n := 0) (d := natD l) (ed_var rfl hv) (ed_i ev_c) rfl rfl)) ea_nil
  unfold tRet tOp tLc iRng1
  refine hA H (Ex.refl H) _ fun H1 e1 => ?_
  refine ⟨(l : Int), rfl, by omega, by omega, fun D hD => ?_⟩
  rw [Int.toNat_natCast]
  refine lc_range (fun i H' => ∃ rs, Ex H1 H' ∧ Kds H1 H' D rs (List.replicate i [])) ⟨[], Ex.new hD, ⟨upd_same, rfl, List.nodup_nil, List.not_mem_nil, fun i r ks h _ => by cases h⟩, hD, fun r h => by cases h⟩ (fun i H' hi hP => ?_) fun H2 hP => ?_
  · obtain ⟨rs, e, k⟩ := hP
    refine ⟨rfl, yes_ ?_⟩
    refine ⟨by show 0 ≤ sizeLine; decide, fun r hr => ?_⟩
    have k1 := k.ex (Ex.new (o := .lst []) hr)
    have hlr : rs.length = i := by rw [k.kd.len, List.length_replicate]
    refine ⟨rs.map V.ref, k1.kd.at_, sz_lt (by rw [List.length_map]; omega), rs ++ [r], Ex.mut (e.trans (Ex.new hr)) hD, ?_⟩
    rw [show rs.map V.ref ++ [V.ref r] = (rs ++ [r]).map V.ref by rw [List.map_append]; rfl, List.replicate_succ']
    exact k1.app upd_same (k.kd.fresh hr) (fresh_back e hr)
  obtain ⟨rs1, e2, k1⟩ := hP
  have hI : EvD K (tOp (rIxT K) (tVar 0) (tC (.int 1))) (start nLists [v]) H2 (.tuple (inner.map kidsD)) := ed_ixT (n := 1) (ed_var rfl (dp_ex (e1.trans e2) _ hv)) (ed_i ev_c) rfl rfl
  refine hI H2 (Ex.refl H2) _ fun w2 H3 e3 hw3 => ?_
  obtain ⟨a, xs, rfl, hs, hd⟩ := dp_tup hw3
  have hxl := dpAll_len hd
  rw [List.length_map] at hxl
  refine ⟨a, rfl, ⟨xs, hs⟩, fun D2 hD2 => ?_⟩
  refine lc_tup (K := K) (xs := xs) (fun i H' => ∃ rs, Ex H3 H' ∧ Kds H3 H' D2 rs (inner.take i)) ⟨[], Ex.new hD2, ⟨upd_same, by rw [List.take_zero]; rfl, List.nodup_nil, List.not_mem_nil, fun i r ks h _ => by cases h⟩, hD2, fun r h => by cases h⟩
    (fun i H' _ hP => by obtain ⟨rs, e, _⟩ := hP; exact ex_t e hs) (fun i x H' hx hP => ?_) fun H4 hP => ?_
  · obtain ⟨rs, e, k⟩ := hP
    obtain ⟨d, hdi, hdx⟩ := dpAll_at hd hx
    rw [List.getElem?_map] at hdi
    obtain ⟨ks, hks, rfl⟩ := Option.map_eq_some_iff.mp hdi
    obtain ⟨b, ys, rfl, hsb, hdb⟩ := dp_tup hdx
    have hdb : DpAll K H3 ys (natDs ks) := hdb
    rw [nats_of hdb] at hsb
    have hil := (List.getElem?_eq_some_iff.mp hks).1
    refine ⟨rfl, yes_ ?_⟩
    refine ⟨.ref b, rfl, b, nVs ks, rfl, .inr (ex_t e hsb), fun r hr => ?_⟩
    have k1 := k.ex (Ex.new (o := .lst (nVs ks)) hr)
    have hlr : rs.length = i := by rw [k.kd.len, List.length_take]; omega
    refine ⟨rs.map V.ref, k1.kd.at_, sz_lt (by rw [List.length_map]; omega), rs ++ [r], Ex.mut (e.trans (Ex.new hr)) hD2, ?_⟩
    rw [show rs.map V.ref ++ [V.ref r] = (rs ++ [r]).map V.ref by rw [List.map_append]; rfl, List.take_add_one, hks]
    exact k1.app upd_same (k.kd.fresh hr) (fresh_back e hr)
  obtain ⟨rs2, e4, k2⟩ := hP
  rw [hxl, List.take_length] at k2
  have hl1 := k1.kd.len
  have hl2 := k2.kd.len
  rw [List.length_replicate] at hl1
  have k13 := k1.kd.ex e3
  refine ⟨D, D2, rs1.map V.ref, rs2.map V.ref, rfl, rfl, (k13.ex e4).at_, k2.kd.at_, sz_of (by rw [List.length_map, List.length_map]; omega), fun p hp => ?_⟩
  refine q p (rs1 ++ rs2) _ ((((e1.trans e2).trans e3).trans e4).trans (Ex.new hp)) ⟨k13.cat e4 k2 hp, fresh_back (((e1.trans e2).trans e3).trans e4) hp, fun r hr => ?_⟩
  rcases List.mem_append.mp hr with z | z
  · exact fresh_back e1 (k1.br r z)
  · exact fresh_back ((e1.trans e2).trans e3) (k2.br r z)
end
end WR
set_option Elab.async false
set_option linter.all false
set_option maxRecDepth 100000
set_option maxHeartbeats 2000000
namespace WR
open PySem PySem.Spec PyProof.Rows L2 Evl

/-! ### the law k12 -/
theorem okP {l : Nat} {inner : List (List Nat)} {d : PyData} {m : Nat} (W : WebP l inner) (h : VD m d) (hm : m ≤ 100) : okR (placeD l inner d) = true := by
  have hw := W.raw
  have hA := W.ascS
  have h1 := hw.l1
  have hdd : ∀ u c, c ∈ kidsAt l inner u → c < u := fun u c h => (kidsAt_lt hw h).2
  by_cases hb : wayB l inner d = true
  · cases d with
    | tuple ds =>
      have hy : (!ds.isEmpty && (kindsB l inner ds && linkB (kidsAt l inner) (ds.map numI))) = true := hb
      rw [Bool.and_eq_true, Bool.and_eq_true] at hy
      obtain ⟨e, hlt⟩ := kinds_nat h1 hy.2.1
      cases ds with
      | nil => cases hy.1
      | cons a r =>
        have hI : isWayL (kidsAt l inner) (numI a :: r.map numI) := (linkB_iff (by simp)).mp hy.2.2
        obtain ⟨to, hto⟩ : ∃ to, (numI a :: r.map numI).getLast? = some to := ⟨_, List.getLast?_eq_some_getLast (by simp)⟩
        have hk := hlt (numI a) (List.mem_cons_self ..)
        have ht := hlt to (List.mem_of_getLast? hto)
        have hfew := way_few W ht hk
        obtain ⟨p0, p1⟩ := placeL_lt hdd hA.at hI hto
        have hkd : PyData.tuple (a :: r) = kidsD (numI a :: r.map numI) := congrArg PyData.tuple e
        rw [hkd] at hb ⊢
        rw [placeD_way hb hto]
        exact (sm_int (by omega)).ok (by decide) (by decide)
    | _ => cases hb
  · unfold placeD
    rw [if_neg hb]
    exact (smL_cons (h.sm hm) (Nat.le_refl _) smL_nil).lst.ok (by decide) (by decide)
abbrev nLaw : List Str := ["_law_script", "_law_deck_here", "_law_turn", "_law_web_here", "_law_kids_here", "_law_again", "_law_value", "_law_bend", "_law_held", "_law_due_here"]
theorem scLaw : FnScope nLaw ["_law_script"] (defScope sLaw) := ⟨rfl, rfl, rfl, by decide +kernel, rfl, by decide +kernel, by decide +kernel⟩
def spLaw (K : PySem.W.Frag) : Sp := fun vs H Q _ => ∃ (a : Addr) (ns : List Int), vs = [.ref a] ∧ SqL K H a (ns.map V.int) ∧ ns.length ≤ 63 ∧ ∀ H', Q (.bl true) H'
theorem q_parS {K : PySem.W.Frag} {σ : L2.St} {H : Hp} {D : Ends} {tz : TS} {i j : Nat} {ta tb : TE} {x : V} {d : PyData} (h1 : Ev ta σ H x) (h2 : ∀ H1, Ex H H1 → EvD K tb σ H1 d) (k : ∀ y H1, Ex H H1 → Dp K H1 y d → tz D ((σ.set i (some x)).set j (some y)) H1) : tSeq (tPar i j (tCons ta (tCons tb tNil))) tz D σ H :=
  h1 H (Ex.refl H) _ fun H1 e1 => h2 H1 e1 H1 (Ex.refl _) _ fun y H2 e2 hy => ⟨_, _, rfl, k y H2 (e1.trans e2) hy⟩
def mVB (b : Nat) : Nat := 11 * 2 ^ b - 1
theorem mVB_s (b : Nat) : 2 * mVB b + 1 = mVB (b + 1) := by
  unfold mVB
  have : 1 ≤ 2 ^ b := Nat.one_le_two_pow
  rw [Nat.pow_succ]
  omega
section
variable {P : Program} {w : World} {K : PySem.W.Frag} {mg : Str → Option Value} {base : Heap}
theorem runs_law {f fD fW fT fL fU fV fG fB : Addr} {fd fdD fdW fdT fdL fdU fdV fdG fdB : FuncData} (F : Fun K "law" "law" sLaw f fd)
    (FD : Fun K "_law_deck" "_law_deck" sDeck fD fdD) (bD : Binds K fdD ["_law_script"] []) (gD : mg "_law_deck" = some (.ref fD))
    (FW : Fun K "_law_draw" "_law_draw" sDraw fW fdW) (bW : Binds K fdW ["_law_deck_here", "_law_many"] []) (gW : mg "_law_draw" = some (.ref fW))
    (FT : Fun K "_law_web" "_law_web" sLWeb fT fdT) (bT : Binds K fdT ["_law_deck_here", "_law_most", "_law_mixes"] []) (gT : mg "_law_web" = some (.ref fT))
    (FL : Fun K "_law_lists" "_law_lists" sLists fL fdL) (bL : Binds K fdL ["_law_web_here"] []) (gL : mg "_law_lists" = some (.ref fL))
    (FV : Fun K "_law_way" "_law_way" s_law_way fV fdV) (bV : Binds K fdV ["_law_deck_here", "_law_kids_here"] []) (gV : mg "_law_way" = some (.ref fV))
    (FU : Fun K "_law_due" "_law_due" s_law_due fU fdU) (bU : Binds K fdU ["_law_kids_here", "_law_value"] []) (gU : mg "_law_due" = some (.ref fU))
    (FG : Fun K "_law_told" "_law_told" s_law_told fG fdG) (bG : Binds K fdG ["_law_web_here", "_law_value"] []) (gG : mg "_law_told" = some (.ref fG))
    (FB : Fun K "_law_bent" "_law_bent" s_law_bent fB fdB) (bB : Binds K fdB ["_law_deck_here", "_law_value"] []) (gB : mg "_law_bent" = some (.ref fB))
    (m1 : mg "range" = none) (m2 : mg "repr" = none)
    (GD : FnOk P w K mg base CX0 1 fD fdD ["_law_script"] (spDeck K))
    (GW : FnOk P w K mg base CX0 1 fW fdW ["_law_deck_here", "_law_many"] spDraw)
    (GT : FnOk P w K mg base CX0 5 fT fdT ["_law_deck_here", "_law_most", "_law_mixes"] (spLWeb K))
    (GL : FnOk P w K mg base CX0 1 fL fdL ["_law_web_here"] (spListsK K))
    (GV : FnOk P w K mg base CX0 3 fV fdV ["_law_deck_here", "_law_kids_here"] (spWy K))
    (GU : FnOk P w K mg base CX0 2 fU fdU ["_law_kids_here", "_law_value"] (spDue2 K))
    (GG : FnOk P w K mg base CX0 6 fG fdG ["_law_web_here", "_law_value"] (spTold2 K))
    (GB : FnOk P w K mg base CX0 3 fB fdB ["_law_deck_here", "_law_value"] (spBent K)) :
    RunsG P w K mg base f fd "_law_script" (spLaw K) := by
  refine runsG_of (k := 6) F scLaw ⟨rfl, by decide, by decide⟩ fun cdv s H v Q hr h => ?_
  obtain ⟨a, ns, ev, hS, hlen, q⟩ := h
  cases ev
  have r1 := hr.mono (show 1 ≤ 6 by decide)
  have r2 := hr.mono (show 2 ≤ 6 by decide)
  have r3 := hr.mono (show 3 ≤ 6 by decide)
  have r5 := hr.mono (show 5 ≤ 6 by decide)
  have hu := hr.units
  apply Exists.intro
  apply And.intro
  case left =>
    refine' pss_cons (ps_set (i := 1) scLaw.nd rfl (.inl rfl) (pe_call GD r1 (by rfl) gD FD.kp bD .nil pass0 (pa_cons (pv 0) pa_nil))) ?r0
    case' r0 => skip
    refine' pss_cons (ps_for PassesOwn.never rfl (pi_range1 (by rfl) m1 (pa_cons pe_int pa_nil)) (pg_name (i := 2) scLaw.nd rfl (.inl rfl)) ?b0) ?r1
    case' b0 =>
      refine' pss_cons (ps_set (i := 3) scLaw.nd rfl (.inl rfl) (pe_call GT r5 (by rfl) gT FT.kp bT .nil pass0 (pa_cons (pv 1) (pa_cons pe_int (pa_cons pe_int pa_nil))))) ?b1
      case' b1 => skip
      refine' pss_cons (ps_set (i := 4) scLaw.nd rfl (.inl rfl) (pe_call GL r1 (by rfl) gL FL.kp bL .nil pass0 (pa_cons (pv 3) pa_nil))) ?b2
      case' b2 => skip
      refine' pss_one (ps_for PassesOwn.never rfl (pi_range1 (by rfl) m1 (pa_cons pe_int pa_nil)) (pg_name (i := 5) scLaw.nd rfl (.inl rfl)) ?c0)
      case' c0 =>
        refine' pss_cons (ps_set (i := 6) scLaw.nd rfl (.inl rfl) (pe_call GV r3 (by rfl) gV FV.kp bV .nil pass0 (pa_cons (pv 1) (pa_cons (pv 4) pa_nil)))) ?c1
        case' c1 => skip
        refine' pss_one (ps_for PassesOwn.never rfl (pi_range1 (by rfl) m1 (pa_cons (pe_op op_add pe_int (pe_call GW r1 (by rfl) gW FW.kp bW .nil pass0 (pa_cons (pv 1) (pa_cons pe_int pa_nil)))) pa_nil)) (pg_name (i := 7) scLaw.nd rfl (.inl rfl)) ?d0)
        case' d0 =>
          refine' pss_cons (ps_par (i := 8) (j := 9) rfl scLaw.nd rfl rfl (by decide) rfl rfl (pa_cons (pe_callB (call_reprA rfl hu) (by rfl) m2 (by decide +kernel) (pa_cons (pe_lst (pa_cons (pv 3) (pa_cons (pv 6) pa_nil))) pa_nil))
            (pa_cons (pe_call GU r2 (by rfl) gU FU.kp bU .nil pass0 (pa_cons (pv 4) (pa_cons (pv 6) pa_nil))) pa_nil)) rfl) ?d1
          case' d1 => skip
          refine' pss_cons (ps_if (pw_or (pt_cmpR op_ne (pe_callB (call_reprA rfl hu) (by rfl) m2 (by decide +kernel) (pa_cons (pe_call GG hr (by rfl) gG FG.kp bG .nil pass0 (pa_cons (pv 3) (pa_cons (pv 6) pa_nil))) pa_nil))
              (pe_callB (call_reprA rfl hu) (by rfl) m2 (by decide +kernel) (pa_cons (pv 9) pa_nil)) (nomark _))
            (pw_or1 (pt_cmpR op_ne (pe_callB (call_reprA rfl hu) (by rfl) m2 (by decide +kernel) (pa_cons (pe_lst (pa_cons (pv 3) (pa_cons (pv 6) pa_nil))) pa_nil)) (pv 8) (nomark _)))).pt (pss_one (ps_ret pe_bl)) pss_nil) ?d2
          case' d2 => skip
          exact pss_one (ps_set (i := 6) scLaw.nd rfl (.inl rfl) (pe_call GB r3 (by rfl) gB FB.kp bB .nil pass0 (pa_cons (pv 1) (pa_cons (pv 6) pa_nil))))
    case' r1 => skip
    exact pss_one (ps_ret pe_bl)
  case right =>
    refine q_deck (K := K) (ev_var rfl) hS hlen fun dk Lk H1 hdk _ e1 hD => ?_
    let S (x2 x3 x4 x5 x6 x7 x8 x9 : Option V) : L2.St := [some (.ref a), some (.ref dk), x2, x3, x4, x5, x6, x7, x8, x9]
    show tSeq (tFor _ _ _) _ _ (S none none none none none none none none) H1
    refine q_forR1 (n := 6) (ea_cons ev_c ea_nil) (by decide) (fun i σ' H' => (∃ x2 x3 x4 x5 x6 x7 x8 x9, σ' = S x2 x3 x4 x5 x6 x7 x8 x9) ∧ Dk H' dk Lk ns (1000 * i)) (fun H2 e2 => ⟨⟨_, _, _, _, _, _, _, _, rfl⟩, by simpa using hD.ex e2⟩) (fun i σ' H' hi hP => ?_) fun σ' H' hP => ?_
    · obtain ⟨⟨x2, x3, x4, x5, x6, x7, x8, x9, rfl⟩, hD⟩ := hP
      show tSeq _ _ _ (S (some (.int (i : Int))) x3 x4 x5 x6 x7 x8 x9) H'
      refine q_lweb (mo := 8) (ev_var rfl) ev_c hD (by omega) (by decide) (by decide) (lweb_c (mx := 8) hD (by decide)) fun H2 v l inner hB hl1 hl8 hv hdr => ?_
      have W := hdr.web hl1 hl8
      have hw := W.raw
      have h20 := hw.n20
      have hA := W.ascS
      clear hdr
      show tSeq _ _ _ (S (some (.int (i : Int))) (some v) x4 x5 x6 x7 x8 x9) H2
      refine ⟨v, rfl, v, l, inner, rfl, hv, hw, fun p rs H3 e3 hK3 => ?_⟩
      have hD2 := hB.deck
      have b3 := (Bs.rfl hD2).more e3
      have hv3 := dp_ex e3 _ hv
      clear hB
      have hK : KdAt (rem H3 dk) p rs (kkOf l inner) := by
        obtain ⟨kd, bp, br⟩ := hK3
        refine ⟨by rw [rem_ne (hD2.ne bp)]; exact kd.at_, kd.len, kd.nd, kd.np, fun i r ks hi hk => ?_⟩
        rw [rem_ne (hD2.ne (br r (List.mem_of_getElem? hi)))]
        exact kd.row i r ks hi hk
      dsimp only [gName]
      show tFor _ _ _ _ (S (some (.int (i : Int))) (some v) (some (.ref p)) x5 x6 x7 x8 x9) H3
      refine s_forR1 (n := 5) (ea_cons ev_c ea_nil) (by decide) (fun j σ' H' => (∃ x5 x6 x7 x8 x9, σ' = S (some (.int (i : Int))) (some v) (some (.ref p)) x5 x6 x7 x8 x9) ∧ Bs H3 H' dk Lk ns (1000 * i + 137 + 40 * j))
        (fun H4 e4 => ⟨⟨_, _, _, _, _, rfl⟩, by simpa using (Bs.rfl b3.deck).more e4⟩) (fun j σ' H4 hj hI => ?_) fun σ' H4 hI => ?_
      · obtain ⟨⟨y5, y6, y7, y8, y9, rfl⟩, b4⟩ := hI
        show tSeq _ _ _ (S (some (.int (i : Int))) (some v) (some (.ref p)) (some (.int (j : Int))) y6 y7 y8 y9) H4
        refine ⟨.ref dk, rfl, .ref p, rfl, dk, Lk, ns, _, p, rs, l, inner, rfl, b4.deck, by omega, hK.ex (exr b4.ex), hw, fun x H5 Wy b45 hx5 hWl hWt => ?_⟩
        have b5 := b4.tr b45
        dsimp only [gName]
        show tFor _ _ _ _ (S (some (.int (i : Int))) (some v) (some (.ref p)) (some (.int (j : Int))) (some x) y7 y8 y9) H5
        have hv0 : VD (mVB 0) (kidsD Wy) := Or.inl ⟨natDs Wy, Or.inl rfl, by unfold natDs mVB; rw [List.length_map]; omega, fun d hd => by
          obtain ⟨c, hc, rfl⟩ := List.mem_map.mp hd
          have := hWt c hc
          exact it_nat (by omega)⟩
        refine ⟨.ref dk, rfl, dk, Lk, ns, 3, _, rfl, b5.deck, by omega, by decide, by decide, fun r H6 a1 a2 e6 d6 => ?_⟩
        have b6 := b5.draw e6 d6
        refine ⟨1, r, rfl, rfl, 1 + r, rfl, by omega, by omega, for_range (lo := 0) (n := (1 + r).toNat) (fun b σ' H' => ∃ x x7 x8 x9, σ' = S (some (.int (i : Int))) (some v) (some (.ref p)) (some (.int (j : Int))) (some x) x7 x8 x9 ∧ Bs H3 H' dk Lk ns (1000 * i + 137 + 40 * j + 21 + 5 * b) ∧ WR.GV K dk H' (mVB b) x)
          ⟨x, _, _, _, rfl, b6.wk (by omega), ⟨_, dp_ex (exr e6) _ hx5, hv0⟩⟩ (fun b σ' H7 hb hP => ?_) fun σ' H7 hP => ?_⟩
        · obtain ⟨x, z7, z8, z9, rfl, b7, d, hx, hV⟩ := hP
          have hb3 : b < 3 := by omega
          have hm43 : mVB b ≤ 43 := by
            have : b = 0 ∨ b = 1 ∨ b = 2 := by omega
            rcases this with rfl | rfl | rfl <;> decide
          have hxH : Dp K H7 x d := dp_ex rem_ex _ hx
          have hvH : Dp K H7 v (webD l inner) := b7.at b3.deck (nl_webA _ _) hv3
          have hsh := hV.sh
          have hdl : lenD d ≤ 1000 := by have := hV.len; omega
          have okL : okR (.list [webD l inner, d]) = true := (smL_cons (sm_web hw) (Nat.le_refl 3) (smL_cons ((hV.sm (by omega)).up (Nat.le_refl _) (by decide)) (Nat.le_refl 3) smL_nil)).lst.ok (by decide) (by decide)
          have hheld : ∀ {H' : Hp}, Ex H7 H' → ∀ {x8 x9 : Option V}, Ev (tCB (rReprA K) (tCons (tLst (tCons (tVar 3) (tCons (tVar 6) tNil))) tNil)) (S (some (.int (i : Int))) (some v) (some (.ref p)) (some (.int (j : Int))) (some x) (some (.int (((0 : Int) + (b : Int))))) x8 x9) H' (.str (PyData.list [webD l inner, d]).shown) := fun {H'} e {x8 x9} =>
            ev_repr (K := K) (d := .list [webD l inner, d]) (ed_n (ed_lst (eda_cons (ed_var rfl (dp_ex e _ hvH)) (eda_cons (ed_var rfl (dp_ex e _ hxH)) eda_nil)) (by simp))) okL
          show tSeq (tPar _ _ _) _ _ (S (some (.int (i : Int))) (some v) (some (.ref p)) (some (.int (j : Int))) (some x) (some (.int ((0 : Int) + (b : Int)))) z8 z9) H7
          refine q_parS (K := K) (d := placeD l inner d) (hheld (Ex.refl _)) (fun H8 e8 H9 e9 Q9 q9 => ?_) fun y H8 e8 hy => ?_
          · exact ⟨.ref p, rfl, x, rfl, p, rs, x, d, l, inner, rfl, ((hK.ex (exr b7.ex)).ex rem_ex).ex (e8.trans e9), W, dp_ex (e8.trans e9) _ hxH, hdl, hsh, fun r H10 e10 hr => q9 r H10 e10 hr⟩
          show tSeq (tIfS _ _ _) _ _ (S (some (.int (i : Int))) (some v) (some (.ref p)) (some (.int (j : Int))) (some x) (some (.int ((0 : Int) + (b : Int)))) (some (.str (PyData.list [webD l inner, d]).shown)) (some y)) H8
          refine q_when (b := false || false) (et_or (et_reprNe (K := K) (d := placeD l inner d) (fun H9 e9 Q9 q9 => ?_) (ed_var rfl hy) (okP W hV (by omega))) fun _ =>
            et_test (ev_is (ev_op (hheld e8) (ev_var rfl) (rv_ne rfl)) ?_)) (fun z => by cases z) fun _ H9 e9 => ?_
          · exact ⟨v, rfl, x, rfl, v, x, d, l, inner, rfl, dp_ex (e8.trans e9) _ hvH, hA, dp_ex (e8.trans e9) _ hxH, hdl, fun r H10 e10 hr => q9 r H10 e10 hr⟩
          · show V.bl (!decide (V.str _ = V.str _)) = _
            rw [decide_eq_true rfl]
            rfl
          have b9 := b7.more (e8.trans e9)
          refine ⟨.ref dk, rfl, x, rfl, dk, Lk, ns, _, x, d, mVB b, rfl, b9.deck, by omega, dp_ex (exr (rem_ex.trans (e8.trans e9))) _ hx, hV, by omega, fun r H10 b10 g10 => ?_⟩
          refine ⟨r, _, _, _, rfl, (b9.tr b10).wk (by omega), ?_⟩
          rw [← mVB_s]
          exact g10
        · obtain ⟨x, z7, z8, z9, rfl, b7, _⟩ := hP
          exact ⟨⟨_, _, _, _, _, rfl⟩, b7.wk (by omega)⟩
      · obtain ⟨⟨y5, y6, y7, y8, y9, rfl⟩, b4⟩ := hI
        exact ⟨⟨_, _, _, _, _, _, _, _, rfl⟩, (((b3.tr b4).wk (show _ ≤ 1000 * ((i + 1 : Nat) : Int) by omega))).deck⟩
    · obtain ⟨⟨x2, x3, x4, x5, x6, x7, x8, x9, rfl⟩, hD⟩ := hP
      exact s_ret (v := .bl true) ev_c fun H3 _ => q H3
end
end WR
set_option Elab.async false
set_option linter.all false
set_option maxRecDepth 100000
set_option maxHeartbeats 4000000
namespace WR
open PySem PySem.Spec PyProof.Rows L2 Evl
/-! ### what the top has written -/
theorem all_mk {l : PySem.W.OpenLaw} {w : World} {K : PySem.W.Frag} {h : Heap} {mg : Str → Option Value} {fa : Addr} (X : K.In h) (G : h.Ns mainGlobals mg) (hfa : mg "law" = some (.ref fa))
    {f1 : Addr} {od1 an1 : Option Addr} {sl1 : Array (Option Value)} {oc1 kV1 dc1 pm1 cd1 ct1 : Value}
    (a1 : PySem.W.nsIn K mainGlobals "is_integer" = some (some (.ref f1)))
    (l1 : K.lookup f1 = some ⟨oc1, od1, .func (PySem.W.fnOf "is_integer" "is_integer" (defArgs sIsInt) (defBody sIsInt) (defScope sIsInt) .none kV1 dc1 pm1 an1 cd1 ct1), sl1⟩)
    (c1 : PySem.W.codeIn K cd1 "is_integer" = true) (k1 : PySem.W.keepIn K (.ref f1) = true)
    {f2 : Addr} {od2 an2 : Option Addr} {sl2 : Array (Option Value)} {oc2 kV2 dc2 pm2 cd2 ct2 : Value}
    (a2 : PySem.W.nsIn K mainGlobals "is_between" = some (some (.ref f2)))
    (l2 : K.lookup f2 = some ⟨oc2, od2, .func (PySem.W.fnOf "is_between" "is_between" (defArgs sBetw) (defBody sBetw) (defScope sBetw) .none kV2 dc2 pm2 an2 cd2 ct2), sl2⟩)
    (c2 : PySem.W.codeIn K cd2 "is_between" = true) (k2 : PySem.W.keepIn K (.ref f2) = true)
    {f3 : Addr} {od3 an3 : Option Addr} {sl3 : Array (Option Value)} {oc3 kV3 dc3 pm3 cd3 ct3 : Value}
    (a3 : PySem.W.nsIn K mainGlobals "root" = some (some (.ref f3)))
    (l3 : K.lookup f3 = some ⟨oc3, od3, .func (PySem.W.fnOf "root" "root" (defArgs sRoot) (defBody sRoot) (defScope sRoot) .none kV3 dc3 pm3 an3 cd3 ct3), sl3⟩)
    (c3 : PySem.W.codeIn K cd3 "root" = true) (k3 : PySem.W.keepIn K (.ref f3) = true)
    {f4 : Addr} {od4 an4 : Option Addr} {sl4 : Array (Option Value)} {oc4 kV4 dc4 pm4 cd4 ct4 : Value}
    (a4 : PySem.W.nsIn K mainGlobals "children" = some (some (.ref f4)))
    (l4 : K.lookup f4 = some ⟨oc4, od4, .func (PySem.W.fnOf "children" "children" (defArgs sKids) (defBody sKids) (defScope sKids) .none kV4 dc4 pm4 an4 cd4 ct4), sl4⟩)
    (c4 : PySem.W.codeIn K cd4 "children" = true) (k4 : PySem.W.keepIn K (.ref f4) = true)
    {f5 : Addr} {od5 an5 : Option Addr} {sl5 : Array (Option Value)} {oc5 kV5 dc5 pm5 cd5 ct5 : Value}
    (a5 : PySem.W.nsIn K mainGlobals "ways_to" = some (some (.ref f5)))
    (l5 : K.lookup f5 = some ⟨oc5, od5, .func (PySem.W.fnOf "ways_to" "ways_to" (defArgs sWaysTo) (defBody sWaysTo) (defScope sWaysTo) .none kV5 dc5 pm5 an5 cd5 ct5), sl5⟩)
    (c5 : PySem.W.codeIn K cd5 "ways_to" = true) (k5 : PySem.W.keepIn K (.ref f5) = true)
    {f6 : Addr} {od6 an6 : Option Addr} {sl6 : Array (Option Value)} {oc6 kV6 dc6 pm6 cd6 ct6 : Value}
    (a6 : PySem.W.nsIn K mainGlobals "place_of" = some (some (.ref f6)))
    (l6 : K.lookup f6 = some ⟨oc6, od6, .func (PySem.W.fnOf "place_of" "place_of" (defArgs s_place_of) (defBody s_place_of) (defScope s_place_of) .none kV6 dc6 pm6 an6 cd6 ct6), sl6⟩)
    (c6 : PySem.W.codeIn K cd6 "place_of" = true) (k6 : PySem.W.keepIn K (.ref f6) = true)
    {f7 : Addr} {od7 an7 : Option Addr} {sl7 : Array (Option Value)} {oc7 kV7 dc7 pm7 cd7 ct7 : Value}
    (a7 : PySem.W.nsIn K mainGlobals "is_way" = some (some (.ref f7)))
    (l7 : K.lookup f7 = some ⟨oc7, od7, .func (PySem.W.fnOf "is_way" "is_way" (defArgs s_is_way) (defBody s_is_way) (defScope s_is_way) .none kV7 dc7 pm7 an7 cd7 ct7), sl7⟩)
    (c7 : PySem.W.codeIn K cd7 "is_way" = true) (k7 : PySem.W.keepIn K (.ref f7) = true)
    {f8 : Addr} {od8 an8 : Option Addr} {sl8 : Array (Option Value)} {oc8 kV8 dc8 pm8 cd8 ct8 : Value}
    (a8 : PySem.W.nsIn K mainGlobals "_law_deck" = some (some (.ref f8)))
    (l8 : K.lookup f8 = some ⟨oc8, od8, .func (PySem.W.fnOf "_law_deck" "_law_deck" (defArgs sDeck) (defBody sDeck) (defScope sDeck) .none kV8 dc8 pm8 an8 cd8 ct8), sl8⟩)
    (c8 : PySem.W.codeIn K cd8 "_law_deck" = true) (k8 : PySem.W.keepIn K (.ref f8) = true)
    {f9 : Addr} {od9 an9 : Option Addr} {sl9 : Array (Option Value)} {oc9 kV9 dc9 pm9 cd9 ct9 : Value}
    (a9 : PySem.W.nsIn K mainGlobals "_law_draw" = some (some (.ref f9)))
    (l9 : K.lookup f9 = some ⟨oc9, od9, .func (PySem.W.fnOf "_law_draw" "_law_draw" (defArgs sDraw) (defBody sDraw) (defScope sDraw) .none kV9 dc9 pm9 an9 cd9 ct9), sl9⟩)
    (c9 : PySem.W.codeIn K cd9 "_law_draw" = true) (k9 : PySem.W.keepIn K (.ref f9) = true)
    {f10 : Addr} {od10 an10 : Option Addr} {sl10 : Array (Option Value)} {oc10 kV10 dc10 pm10 cd10 ct10 : Value}
    (a10 : PySem.W.nsIn K mainGlobals "_law_one" = some (some (.ref f10)))
    (l10 : K.lookup f10 = some ⟨oc10, od10, .func (PySem.W.fnOf "_law_one" "_law_one" (defArgs sOne) (defBody sOne) (defScope sOne) .none kV10 dc10 pm10 an10 cd10 ct10), sl10⟩)
    (c10 : PySem.W.codeIn K cd10 "_law_one" = true) (k10 : PySem.W.keepIn K (.ref f10) = true)
    {f11 : Addr} {od11 an11 : Option Addr} {sl11 : Array (Option Value)} {oc11 kV11 dc11 pm11 cd11 ct11 : Value}
    (a11 : PySem.W.nsIn K mainGlobals "_law_tree" = some (some (.ref f11)))
    (l11 : K.lookup f11 = some ⟨oc11, od11, .func (PySem.W.fnOf "_law_tree" "_law_tree" (defArgs sLTree) (defBody sLTree) (defScope sLTree) .none kV11 dc11 pm11 an11 cd11 ct11), sl11⟩)
    (c11 : PySem.W.codeIn K cd11 "_law_tree" = true) (k11 : PySem.W.keepIn K (.ref f11) = true)
    {f12 : Addr} {od12 an12 : Option Addr} {sl12 : Array (Option Value)} {oc12 kV12 dc12 pm12 cd12 ct12 : Value}
    (a12 : PySem.W.nsIn K mainGlobals "_law_ups" = some (some (.ref f12)))
    (l12 : K.lookup f12 = some ⟨oc12, od12, .func (PySem.W.fnOf "_law_ups" "_law_ups" (defArgs sUps) (defBody sUps) (defScope sUps) .none kV12 dc12 pm12 an12 cd12 ct12), sl12⟩)
    (c12 : PySem.W.codeIn K cd12 "_law_ups" = true) (k12 : PySem.W.keepIn K (.ref f12) = true)
    {f13 : Addr} {od13 an13 : Option Addr} {sl13 : Array (Option Value)} {oc13 kV13 dc13 pm13 cd13 ct13 : Value}
    (a13 : PySem.W.nsIn K mainGlobals "_law_down" = some (some (.ref f13)))
    (l13 : K.lookup f13 = some ⟨oc13, od13, .func (PySem.W.fnOf "_law_down" "_law_down" (defArgs sDown) (defBody sDown) (defScope sDown) .none kV13 dc13 pm13 an13 cd13 ct13), sl13⟩)
    (c13 : PySem.W.codeIn K cd13 "_law_down" = true) (k13 : PySem.W.keepIn K (.ref f13) = true)
    {f14 : Addr} {od14 an14 : Option Addr} {sl14 : Array (Option Value)} {oc14 kV14 dc14 pm14 cd14 ct14 : Value}
    (a14 : PySem.W.nsIn K mainGlobals "_law_mix" = some (some (.ref f14)))
    (l14 : K.lookup f14 = some ⟨oc14, od14, .func (PySem.W.fnOf "_law_mix" "_law_mix" (defArgs sLMix) (defBody sLMix) (defScope sLMix) .none kV14 dc14 pm14 an14 cd14 ct14), sl14⟩)
    (c14 : PySem.W.codeIn K cd14 "_law_mix" = true) (k14 : PySem.W.keepIn K (.ref f14) = true)
    {f15 : Addr} {od15 an15 : Option Addr} {sl15 : Array (Option Value)} {oc15 kV15 dc15 pm15 cd15 ct15 : Value}
    (a15 : PySem.W.nsIn K mainGlobals "_law_numbered" = some (some (.ref f15)))
    (l15 : K.lookup f15 = some ⟨oc15, od15, .func (PySem.W.fnOf "_law_numbered" "_law_numbered" (defArgs sNumb) (defBody sNumb) (defScope sNumb) .none kV15 dc15 pm15 an15 cd15 ct15), sl15⟩)
    (c15 : PySem.W.codeIn K cd15 "_law_numbered" = true) (k15 : PySem.W.keepIn K (.ref f15) = true)
    {f16 : Addr} {od16 an16 : Option Addr} {sl16 : Array (Option Value)} {oc16 kV16 dc16 pm16 cd16 ct16 : Value}
    (a16 : PySem.W.nsIn K mainGlobals "_law_kids" = some (some (.ref f16)))
    (l16 : K.lookup f16 = some ⟨oc16, od16, .func (PySem.W.fnOf "_law_kids" "_law_kids" (defArgs sLKids) (defBody sLKids) (defScope sLKids) .none kV16 dc16 pm16 an16 cd16 ct16), sl16⟩)
    (c16 : PySem.W.codeIn K cd16 "_law_kids" = true) (k16 : PySem.W.keepIn K (.ref f16) = true)
    {f17 : Addr} {od17 an17 : Option Addr} {sl17 : Array (Option Value)} {oc17 kV17 dc17 pm17 cd17 ct17 : Value}
    (a17 : PySem.W.nsIn K mainGlobals "_law_web" = some (some (.ref f17)))
    (l17 : K.lookup f17 = some ⟨oc17, od17, .func (PySem.W.fnOf "_law_web" "_law_web" (defArgs sLWeb) (defBody sLWeb) (defScope sLWeb) .none kV17 dc17 pm17 an17 cd17 ct17), sl17⟩)
    (c17 : PySem.W.codeIn K cd17 "_law_web" = true) (k17 : PySem.W.keepIn K (.ref f17) = true)
    {f18 : Addr} {od18 an18 : Option Addr} {sl18 : Array (Option Value)} {oc18 kV18 dc18 pm18 cd18 ct18 : Value}
    (a18 : PySem.W.nsIn K mainGlobals "_law_lists" = some (some (.ref f18)))
    (l18 : K.lookup f18 = some ⟨oc18, od18, .func (PySem.W.fnOf "_law_lists" "_law_lists" (defArgs sLists) (defBody sLists) (defScope sLists) .none kV18 dc18 pm18 an18 cd18 ct18), sl18⟩)
    (c18 : PySem.W.codeIn K cd18 "_law_lists" = true) (k18 : PySem.W.keepIn K (.ref f18) = true)
    {f19 : Addr} {od19 an19 : Option Addr} {sl19 : Array (Option Value)} {oc19 kV19 dc19 pm19 cd19 ct19 : Value}
    (a19 : PySem.W.nsIn K mainGlobals "_law_all" = some (some (.ref f19)))
    (l19 : K.lookup f19 = some ⟨oc19, od19, .func (PySem.W.fnOf "_law_all" "_law_all" (defArgs s_law_all) (defBody s_law_all) (defScope s_law_all) .none kV19 dc19 pm19 an19 cd19 ct19), sl19⟩)
    (c19 : PySem.W.codeIn K cd19 "_law_all" = true) (k19 : PySem.W.keepIn K (.ref f19) = true)
    {f20 : Addr} {od20 an20 : Option Addr} {sl20 : Array (Option Value)} {oc20 kV20 dc20 pm20 cd20 ct20 : Value}
    (a20 : PySem.W.nsIn K mainGlobals "_law_due" = some (some (.ref f20)))
    (l20 : K.lookup f20 = some ⟨oc20, od20, .func (PySem.W.fnOf "_law_due" "_law_due" (defArgs s_law_due) (defBody s_law_due) (defScope s_law_due) .none kV20 dc20 pm20 an20 cd20 ct20), sl20⟩)
    (c20 : PySem.W.codeIn K cd20 "_law_due" = true) (k20 : PySem.W.keepIn K (.ref f20) = true)
    {f21 : Addr} {od21 an21 : Option Addr} {sl21 : Array (Option Value)} {oc21 kV21 dc21 pm21 cd21 ct21 : Value}
    (a21 : PySem.W.nsIn K mainGlobals "_law_told" = some (some (.ref f21)))
    (l21 : K.lookup f21 = some ⟨oc21, od21, .func (PySem.W.fnOf "_law_told" "_law_told" (defArgs s_law_told) (defBody s_law_told) (defScope s_law_told) .none kV21 dc21 pm21 an21 cd21 ct21), sl21⟩)
    (c21 : PySem.W.codeIn K cd21 "_law_told" = true) (k21 : PySem.W.keepIn K (.ref f21) = true)
    {f22 : Addr} {od22 an22 : Option Addr} {sl22 : Array (Option Value)} {oc22 kV22 dc22 pm22 cd22 ct22 : Value}
    (a22 : PySem.W.nsIn K mainGlobals "_law_way" = some (some (.ref f22)))
    (l22 : K.lookup f22 = some ⟨oc22, od22, .func (PySem.W.fnOf "_law_way" "_law_way" (defArgs s_law_way) (defBody s_law_way) (defScope s_law_way) .none kV22 dc22 pm22 an22 cd22 ct22), sl22⟩)
    (c22 : PySem.W.codeIn K cd22 "_law_way" = true) (k22 : PySem.W.keepIn K (.ref f22) = true)
    {f23 : Addr} {od23 an23 : Option Addr} {sl23 : Array (Option Value)} {oc23 kV23 dc23 pm23 cd23 ct23 : Value}
    (a23 : PySem.W.nsIn K mainGlobals "_law_bent" = some (some (.ref f23)))
    (l23 : K.lookup f23 = some ⟨oc23, od23, .func (PySem.W.fnOf "_law_bent" "_law_bent" (defArgs s_law_bent) (defBody s_law_bent) (defScope s_law_bent) .none kV23 dc23 pm23 an23 cd23 ct23), sl23⟩)
    (c23 : PySem.W.codeIn K cd23 "_law_bent" = true) (k23 : PySem.W.keepIn K (.ref f23) = true)
    {f24 : Addr} {od24 an24 : Option Addr} {sl24 : Array (Option Value)} {oc24 kV24 dc24 pm24 cd24 ct24 : Value}
    (a24 : PySem.W.nsIn K mainGlobals "law" = some (some (.ref f24)))
    (l24 : K.lookup f24 = some ⟨oc24, od24, .func (PySem.W.fnOf "law" "law" (defArgs sLaw) (defBody sLaw) (defScope sLaw) .none kV24 dc24 pm24 an24 cd24 ct24), sl24⟩)
    (c24 : PySem.W.codeIn K cd24 "law" = true) (k24 : PySem.W.keepIn K (.ref f24) = true)
    (z1 : PySem.W.nsIn K mainGlobals "list" = some none)
    (z2 : PySem.W.nsIn K mainGlobals "int" = some none)
    (z3 : PySem.W.nsIn K mainGlobals "abs" = some none)
    (z4 : PySem.W.nsIn K mainGlobals "len" = some none)
    (z5 : PySem.W.nsIn K mainGlobals "range" = some none)
    (z6 : PySem.W.nsIn K mainGlobals "min" = some none)
    (z7 : PySem.W.nsIn K mainGlobals "dict" = some none)
    (z8 : PySem.W.nsIn K mainGlobals "tuple" = some none)
    (z9 : PySem.W.nsIn K mainGlobals "sorted" = some none)
    (z10 : PySem.W.nsIn K mainGlobals "isinstance" = some none)
    (z11 : PySem.W.nsIn K mainGlobals "bool" = some none)
    (z12 : PySem.W.nsIn K mainGlobals "all" = some none)
    (z13 : PySem.W.nsIn K mainGlobals "sum" = some none)
    (z14 : PySem.W.nsIn K mainGlobals "repr" = some none)
    {C WE0 fI : Addr} {nm0 q0 : Str} {N0 : Addr} {bs0 : List Value} {sn0 : List Str} {sub0 : List Value} {ab0 : Bool} {col0 : Option Bool} {dd0 : Option Addr} {mm0 mm1 mm2 mm3 mm5 : Option Value} {odI anI : Option Addr} {slI : Array (Option Value)} {ocI dcI pmI cdI ctI : Value}
    (xA : PySem.W.nsIn K mainGlobals "NoWay" = some (some (.ref C))) (xW : PySem.W.nsIn K mainGlobals "WebError" = some (some (.ref WE0)))
    (xL : K.lookup C = some (PySem.excClassObj nm0 q0 C N0 bs0 [.ref WE0, .type "ValueError", .type "Exception", .type "BaseException", .type "object"] true sn0 sub0 ab0 col0 dd0 mm0 mm1 mm2 mm3 mm5 "ValueError.__new__"))
    (xs : PySem.W.findIn K (.ref C) "__setattr__" = some (some (.builtin "object.__setattr__"))) (xg : PySem.W.findIn K (.ref C) "__getattribute__" = some (some (.builtin "BaseException.__getattribute__"))) (xh : PySem.W.findIn K (.ref C) "__getattr__" = some none) (xn : PySem.W.findIn K (.ref C) "value" = some none)
    (xi : PySem.W.findIn K (.ref C) "__init__" = some (some (.ref fI))) (xt : PySem.W.typeIn K (.ref fI) = some (.type "function"))
    (xl : K.lookup fI = some ⟨ocI, odI, .func (PySem.W.fnOf "__init__" "NoWay.__init__" (PySem.LowX.iA ⟨6, 17, 6, 21⟩ ⟨6, 23, 6, 28⟩) (PySem.LowX.iB ⟨7, 8, 7, 12⟩ ⟨7, 8, 7, 18⟩ ⟨7, 21, 7, 26⟩ ⟨7, 8, 7, 26⟩) PySem.LowX.iS .none .none dcI pmI anI cdI ctI), slI⟩) (xc : PySem.W.codeIn K cdI "NoWay.__init__" = true)
    (yk : PySem.W.keepIn K (.ref C) = true) (ye : PySem.W.subIn K (.ref C) (.type "BaseException") = some true) (yt : PySem.W.typeIn K (.ref C) = some (.type "type")) (yh : PySem.W.hasDictIn K C = true) (yi : PySem.W.isClsIn K C = true) (yS : PySem.W.subIn K (.ref C) (.ref C) = some true)
    : ∃ fd : FuncData, (∀ (s : Shared) (u : Value), BindsTo s fd ⟨[u], []⟩ [("_law_script", u)]) ∧ ∀ base : Heap, K.In base → base.Ns mainGlobals mg → RunsG l.prog w K mg base fa fd "_law_script" (spLaw K) := by
  have qT : PySem.LowX.LowTxt K mg C fI :=
    { gC := PySem.W.mg_of X G xA, cls := ⟨nm0, q0, N0, bs0, _, sn0, sub0, ab0, col0, dd0, mm0, mm1, mm2, mm3, mm5, xL, by first | rfl | (simp [PySem.W.refsVE])⟩, sa := xs, ga := xg, gg := xh, noN := xn, iC := xi, tC := xt, kC := yk, exC := ye, tyC := yt, hdC := yh, te := exm_self ye yi yt yS,
      fn := ⟨_, _, _, _, _, _, _, _, _, _, _, _, _, _, xl, xc⟩ }
  have qgE := PySem.W.mg_of X G xW
  have e := hfa.symm.trans (PySem.W.mg_of X G a24)
  cases e
  have F1 := fun_mk (st := sIsInt) l1 c1 k1
  have b1 := F1.binds (ps := ["value"]) fun _ _ _ _ _ _ us hl => match us, hl with | [_], _ => rfl
  have g1 := PySem.W.mg_of X G a1
  have F2 := fun_mk (st := sBetw) l2 c2 k2
  have b2 := F2.binds (ps := ["value", "low", "high"]) fun _ _ _ _ _ _ us hl => match us, hl with | [_, _, _], _ => rfl
  have g2 := PySem.W.mg_of X G a2
  have F3 := fun_mk (st := sRoot) l3 c3 k3
  have b3 := F3.binds (ps := ["web"]) fun _ _ _ _ _ _ us hl => match us, hl with | [_], _ => rfl
  have g3 := PySem.W.mg_of X G a3
  have F4 := fun_mk (st := sKids) l4 c4 k4
  have b4 := F4.binds (ps := ["web", "kind"]) fun _ _ _ _ _ _ us hl => match us, hl with | [_, _], _ => rfl
  have g4 := PySem.W.mg_of X G a4
  have F5 := fun_mk (st := sWaysTo) l5 c5 k5
  have b5 := F5.binds (ps := ["web", "to"]) fun _ _ _ _ _ _ us hl => match us, hl with | [_, _], _ => rfl
  have g5 := PySem.W.mg_of X G a5
  have F6 := fun_mk (st := s_place_of) l6 c6 k6
  have b6 := F6.binds (ps := ["web", "value"]) fun _ _ _ _ _ _ us hl => match us, hl with | [_, _], _ => rfl
  have g6 := PySem.W.mg_of X G a6
  have F7 := fun_mk (st := s_is_way) l7 c7 k7
  have b7 := F7.binds (ps := ["web", "value"]) fun _ _ _ _ _ _ us hl => match us, hl with | [_, _], _ => rfl
  have g7 := PySem.W.mg_of X G a7
  have F8 := fun_mk (st := sDeck) l8 c8 k8
  have b8 := F8.binds (ps := ["_law_script"]) fun _ _ _ _ _ _ us hl => match us, hl with | [_], _ => rfl
  have g8 := PySem.W.mg_of X G a8
  have F9 := fun_mk (st := sDraw) l9 c9 k9
  have b9 := F9.binds (ps := ["_law_deck_here", "_law_many"]) fun _ _ _ _ _ _ us hl => match us, hl with | [_, _], _ => rfl
  have g9 := PySem.W.mg_of X G a9
  have F10 := fun_mk (st := sOne) l10 c10 k10
  have b10 := F10.binds (ps := ["_law_deck_here", "_law_items"]) fun _ _ _ _ _ _ us hl => match us, hl with | [_, _], _ => rfl
  have g10 := PySem.W.mg_of X G a10
  have F11 := fun_mk (st := sLTree) l11 c11 k11
  have b11 := F11.binds (ps := ["_law_deck_here", "_law_leaves"]) fun _ _ _ _ _ _ us hl => match us, hl with | [_, _], _ => rfl
  have g11 := PySem.W.mg_of X G a11
  have F12 := fun_mk (st := sUps) l12 c12 k12
  have b12 := F12.binds (ps := ["_law_kids_here", "_law_kind"]) fun _ _ _ _ _ _ us hl => match us, hl with | [_, _], _ => rfl
  have g12 := PySem.W.mg_of X G a12
  have F13 := fun_mk (st := sDown) l13 c13 k13
  have b13 := F13.binds (ps := ["_law_kids_here", "_law_kind"]) fun _ _ _ _ _ _ us hl => match us, hl with | [_, _], _ => rfl
  have g13 := PySem.W.mg_of X G a13
  have F14 := fun_mk (st := sLMix) l14 c14 k14
  have b14 := F14.binds (ps := ["_law_deck_here", "_law_kids_here"]) fun _ _ _ _ _ _ us hl => match us, hl with | [_, _], _ => rfl
  have g14 := PySem.W.mg_of X G a14
  have F15 := fun_mk (st := sNumb) l15 c15 k15
  have b15 := F15.binds (ps := ["_law_deck_here", "_law_kids_here", "_law_leaves"]) fun _ _ _ _ _ _ us hl => match us, hl with | [_, _, _], _ => rfl
  have g15 := PySem.W.mg_of X G a15
  have F16 := fun_mk (st := sLKids) l16 c16 k16
  have b16 := F16.binds (ps := ["_law_deck_here", "_law_leaves", "_law_mixes"]) fun _ _ _ _ _ _ us hl => match us, hl with | [_, _, _], _ => rfl
  have g16 := PySem.W.mg_of X G a16
  have F17 := fun_mk (st := sLWeb) l17 c17 k17
  have b17 := F17.binds (ps := ["_law_deck_here", "_law_most", "_law_mixes"]) fun _ _ _ _ _ _ us hl => match us, hl with | [_, _, _], _ => rfl
  have g17 := PySem.W.mg_of X G a17
  have F18 := fun_mk (st := sLists) l18 c18 k18
  have b18 := F18.binds (ps := ["_law_web_here"]) fun _ _ _ _ _ _ us hl => match us, hl with | [_], _ => rfl
  have g18 := PySem.W.mg_of X G a18
  have F19 := fun_mk (st := s_law_all) l19 c19 k19
  have b19 := F19.binds (ps := ["_law_kids_here", "_law_kind", "_law_to"]) fun _ _ _ _ _ _ us hl => match us, hl with | [_, _, _], _ => rfl
  have g19 := PySem.W.mg_of X G a19
  have F20 := fun_mk (st := s_law_due) l20 c20 k20
  have b20 := F20.binds (ps := ["_law_kids_here", "_law_value"]) fun _ _ _ _ _ _ us hl => match us, hl with | [_, _], _ => rfl
  have g20 := PySem.W.mg_of X G a20
  have F21 := fun_mk (st := s_law_told) l21 c21 k21
  have b21 := F21.binds (ps := ["_law_web_here", "_law_value"]) fun _ _ _ _ _ _ us hl => match us, hl with | [_, _], _ => rfl
  have g21 := PySem.W.mg_of X G a21
  have F22 := fun_mk (st := s_law_way) l22 c22 k22
  have b22 := F22.binds (ps := ["_law_deck_here", "_law_kids_here"]) fun _ _ _ _ _ _ us hl => match us, hl with | [_, _], _ => rfl
  have g22 := PySem.W.mg_of X G a22
  have F23 := fun_mk (st := s_law_bent) l23 c23 k23
  have b23 := F23.binds (ps := ["_law_deck_here", "_law_value"]) fun _ _ _ _ _ _ us hl => match us, hl with | [_, _], _ => rfl
  have g23 := PySem.W.mg_of X G a23
  have F24 := fun_mk (st := sLaw) l24 c24 k24
  have q_list := PySem.W.mg_none_of X G z1
  have q_int := PySem.W.mg_none_of X G z2
  have q_abs := PySem.W.mg_none_of X G z3
  have q_len := PySem.W.mg_none_of X G z4
  have q_range := PySem.W.mg_none_of X G z5
  have q_min := PySem.W.mg_none_of X G z6
  have q_dict := PySem.W.mg_none_of X G z7
  have q_tuple := PySem.W.mg_none_of X G z8
  have q_sorted := PySem.W.mg_none_of X G z9
  have q_isinstance := PySem.W.mg_none_of X G z10
  have q_bool := PySem.W.mg_none_of X G z11
  have q_all := PySem.W.mg_none_of X G z12
  have q_sum := PySem.W.mg_none_of X G z13
  have q_repr := PySem.W.mg_none_of X G z14
  refine ⟨PySem.W.fnOf "law" "law" (defArgs sLaw) (defBody sLaw) (defScope sLaw) .none kV24 dc24 pm24 an24 cd24 ct24, fun s v => .of_eq rfl, fun base _ _ => ?_⟩
  have G8 := ok_deck (P := l.prog) (w := w) (mg := mg) (base := base) F8 q_list
  have G9 := ok_draw (P := l.prog) (w := w) (mg := mg) (base := base) F9 q_int q_abs q_len
  have G10 := ok_one (P := l.prog) (w := w) (mg := mg) (base := base) F10 F9 b9 g9 q_len G9
  have G11 := ok_tree (P := l.prog) (w := w) (mg := mg) (base := base) F11 F9 b9 g9 F10 b10 g10 q_range q_list q_len q_min G9 G10
  have G12 := ok_ups (P := l.prog) (w := w) (mg := mg) (base := base) F12 q_range q_len
  have G13 := ok_down (P := l.prog) (w := w) (mg := mg) (base := base) F13
  have G14 := ok_mix (P := l.prog) (w := w) (mg := mg) (base := base) F14 F9 b9 g9 F10 b10 g10 F12 b12 g12 F13 b13 g13 q_range q_len G9 G10 G12 G13
  have G16 := ok_lkids (P := l.prog) (w := w) (mg := mg) (base := base) F16 F9 b9 g9 F11 b11 g11 F14 b14 g14 q_range q_len G9 G11 G14
  have G15 := ok_numb (P := l.prog) (w := w) (mg := mg) (base := base) F15 F10 b10 g10 q_range q_list q_len q_dict q_tuple q_sorted G10
  have G17 := ok_lweb (P := l.prog) (w := w) (mg := mg) (base := base) F17 F9 b9 g9 F16 b16 g16 F15 b15 g15 G9 G16 G15
  have G18 := ok_listsK (P := l.prog) (w := w) (mg := mg) (base := base) F18 q_range q_list
  have G22 := ok_wy (P := l.prog) (w := w) (mg := mg) (base := base) F22 F9 b9 g9 F10 b10 g10 q_range q_tuple q_len G9 G10
  have G19 := ok_all (P := l.prog) (w := w) (mg := mg) (base := base) F19 q_sorted
  have G20 := ok_due2 (P := l.prog) (w := w) (mg := mg) (base := base) F20 F19 b19 g19 q_isinstance q_tuple q_int q_bool q_len G19
  have G3 := ok_root (P := l.prog) (w := w) (mg := mg) (base := base) F3 q_len
  have G1 := ok_isInt (P := l.prog) (w := w) (mg := mg) (base := base) F1 q_isinstance q_int q_bool
  have G2 := ok_betw (P := l.prog) (w := w) (mg := mg) (base := base) F2 F1 b1 g1 G1
  have G4 := ok_kids (P := l.prog) (w := w) (mg := mg) (base := base) F4
  have G7 := ok_iswayX (P := l.prog) (w := w) (mg := mg) (base := base) F7 F3 b3 g3 F2 b2 g2 F4 b4 g4 q_isinstance q_tuple q_len q_all q_range G3 G2 G4
  have G5 := ok_waysto (P := l.prog) (w := w) (mg := mg) (base := base) F5 F3 b3 g3 F4 b4 g4 q_range q_sum G3 G4
  have G6X := ok_placeX (P := l.prog) (w := w) (mg := mg) (base := base) F6 F7 b7 g7 F5 b5 g5 F4 b4 g4 q_len q_sum q_range qT G7 G5 G4
  have G21 := ok_told2 (P := l.prog) (w := w) (mg := mg) (base := base) F21 F6 b6 g6 qT G6X
  have G23 := ok_bent (P := l.prog) (w := w) (mg := mg) (base := base) F23 F9 b9 g9 F10 b10 g10 q_isinstance q_tuple q_len q_list G9 G10
  exact runs_law F24 F8 b8 g8 F9 b9 g9 F17 b17 g17 F18 b18 g18 F22 b22 g22 F20 b20 g20 F21 b21 g21 F23 b23 g23 q_range q_repr G8 G9 G17 G18 G22 G20 G21 G23
end WR
open PySem PySem.W PyProof.Rows
set_option maxHeartbeats 0 in
theorem PySem.Challenge.cw_wayrows_k12_numbers_of_ways_holds : PySem.Challenge.rw_wayrows_k12_numbers_of_ways.Holds := by
  w_on; o_law; k_head; (case hw => w_witness2)
  k_fill
  refine WR.walk_ofG (l := PySem.Challenge.rw_wayrows_k12_numbers_of_ways) (n := 63) (x := "_law_script") (sp := WR.spLaw) rfl (by decide) rfl (fun w h Y => PySem.W.kIn_of Y) ?F (fun _ _ a ns hl _ hS => ⟨a, ns, rfl, hS, hl, fun _ => rfl⟩)
  case F =>
    intro w mg fa h KX G hmg
    refine' WR.all_mk KX G hmg ?a1 ?l1 ?c1 ?k1 ?a2 ?l2 ?c2 ?k2 ?a3 ?l3 ?c3 ?k3 ?a4 ?l4 ?c4 ?k4 ?a5 ?l5 ?c5 ?k5 ?a6 ?l6 ?c6 ?k6 ?a7 ?l7 ?c7 ?k7 ?a8 ?l8 ?c8 ?k8 ?a9 ?l9 ?c9 ?k9 ?a10 ?l10 ?c10 ?k10 ?a11 ?l11 ?c11 ?k11 ?a12 ?l12 ?c12 ?k12 ?a13 ?l13 ?c13 ?k13 ?a14 ?l14 ?c14 ?k14 ?a15 ?l15 ?c15 ?k15 ?a16 ?l16 ?c16 ?k16 ?a17 ?l17 ?c17 ?k17 ?a18 ?l18 ?c18 ?k18 ?a19 ?l19 ?c19 ?k19 ?a20 ?l20 ?c20 ?k20 ?a21 ?l21 ?c21 ?k21 ?a22 ?l22 ?c22 ?k22 ?a23 ?l23 ?c23 ?k23 ?a24 ?l24 ?c24 ?k24 ?z1 ?z2 ?z3 ?z4 ?z5 ?z6 ?z7 ?z8 ?z9 ?z10 ?z11 ?z12 ?z13 ?z14 ?xA ?xW ?xL ?xs ?xg ?xh ?xn ?xi ?xt ?xl ?xc ?yk ?ye ?yt ?yh ?yi ?yS
    (case a1 => k_is)
    (case l1 => k_is)
    (case c1 => k_is)
    (case k1 => k_is)
    (case a2 => k_is)
    (case l2 => k_is)
    (case c2 => k_is)
    (case k2 => k_is)
    (case a3 => k_is)
    (case l3 => k_is)
    (case c3 => k_is)
    (case k3 => k_is)
    (case a4 => k_is)
    (case l4 => k_is)
    (case c4 => k_is)
    (case k4 => k_is)
    (case a5 => k_is)
    (case l5 => k_is)
    (case c5 => k_is)
    (case k5 => k_is)
    (case a6 => k_is)
    (case l6 => k_is)
    (case c6 => k_is)
    (case k6 => k_is)
    (case a7 => k_is)
    (case l7 => k_is)
    (case c7 => k_is)
    (case k7 => k_is)
    (case a8 => k_is)
    (case l8 => k_is)
    (case c8 => k_is)
    (case k8 => k_is)
    (case a9 => k_is)
    (case l9 => k_is)
    (case c9 => k_is)
    (case k9 => k_is)
    (case a10 => k_is)
    (case l10 => k_is)
    (case c10 => k_is)
    (case k10 => k_is)
    (case a11 => k_is)
    (case l11 => k_is)
    (case c11 => k_is)
    (case k11 => k_is)
    (case a12 => k_is)
    (case l12 => k_is)
    (case c12 => k_is)
    (case k12 => k_is)
    (case a13 => k_is)
    (case l13 => k_is)
    (case c13 => k_is)
    (case k13 => k_is)
    (case a14 => k_is)
    (case l14 => k_is)
    (case c14 => k_is)
    (case k14 => k_is)
    (case a15 => k_is)
    (case l15 => k_is)
    (case c15 => k_is)
    (case k15 => k_is)
    (case a16 => k_is)
    (case l16 => k_is)
    (case c16 => k_is)
    (case k16 => k_is)
    (case a17 => k_is)
    (case l17 => k_is)
    (case c17 => k_is)
    (case k17 => k_is)
    (case a18 => k_is)
    (case l18 => k_is)
    (case c18 => k_is)
    (case k18 => k_is)
    (case a19 => k_is)
    (case l19 => k_is)
    (case c19 => k_is)
    (case k19 => k_is)
    (case a20 => k_is)
    (case l20 => k_is)
    (case c20 => k_is)
    (case k20 => k_is)
    (case a21 => k_is)
    (case l21 => k_is)
    (case c21 => k_is)
    (case k21 => k_is)
    (case a22 => k_is)
    (case l22 => k_is)
    (case c22 => k_is)
    (case k22 => k_is)
    (case a23 => k_is)
    (case l23 => k_is)
    (case c23 => k_is)
    (case k23 => k_is)
    (case a24 => k_is)
    (case l24 => k_is)
    (case c24 => k_is)
    (case k24 => k_is)
    (case z1 => k_is)
    (case z2 => k_is)
    (case z3 => k_is)
    (case z4 => k_is)
    (case z5 => k_is)
    (case z6 => k_is)
    (case z7 => k_is)
    (case z8 => k_is)
    (case z9 => k_is)
    (case z10 => k_is)
    (case z11 => k_is)
    (case z12 => k_is)
    (case z13 => k_is)
    (case z14 => k_is)
    (case xA => k_is)
    (case xW => k_is)
    (case xL => k_is)
    (case xs => k_is)
    (case xg => k_is)
    (case xh => k_is)
    (case xn => k_is)
    (case xi => k_is)
    (case xt => k_is)
    (case xl => k_is)
    (case xc => k_is)
    (case yk => k_is)
    (case ye => k_is)
    (case yt => k_is)
    (case yh => k_is)
    (case yi => k_is)
    (case yS => first | rfl | k_is)
