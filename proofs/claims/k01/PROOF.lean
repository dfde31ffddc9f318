import PyProof.Rows.All
import Wide.All
import OpenK.AllK
import Wide.FinOn
import HandS.ForMost
import HandS.IsInst
import PyProof.ReprRoads
import HandS.Evl
import HandS.Walk
import HandS.Conv
import HandS.TupAny
import HandS.Deep
import HandS.ExcIs
import KE.KExcIs
import HandS.SortInts
import HandS.ExcInit
import HandS.ExcOwn
import HandS.ExcValue
import HandS.ExcField
import HandS.ExcCtx
import HandS.Dict
import HandS.More
import HandS.Style
import HandS.SetFor
import PyProof.ReprLen
import PyProof.FitsInt
import HandS.Iter
import HandS.Zip
import PySem.Challenge.RW_wayrows_k01_errors_and_bounds
set_option Elab.async false
set_option linter.all false
set_option maxRecDepth 100000
/-! repr of data, and the law's own def run at the caller's own surroundings (where no repr is under way) -/
namespace WR
open PySem PySem.Spec PyProof.Rows L2

section
variable {X : Cx}
/-- repr(x), x a list or tuple of data -/
def rReprD (K : PySem.W.Frag) : List V → Hp → VK → Prop := fun xs H Q =>
  ∃ (a : Addr) (d : PyData), xs = [.ref a] ∧ Dp K H (.ref a) d ∧ d.showable = true ∧ d.hasDict = false ∧ d.shown.length ≤ sizeLine ∧ d.depth ≤ 40 ∧ Q (.str d.shown) H
theorem call_reprD (hg : X.A.guards = some []) (hu : X.A.units + 64 < cLine) : CallR X (.builtin "repr") (rReprD X.K) := by
  intro pins s σ H xs us Q I r h
  obtain ⟨a, d, rfl, hd, hs, hn, hz, hdp, q⟩ := h
  obtain ⟨u, rfl, rfl⟩ := vals1 r
  obtain ⟨as, rd⟩ := Dp.reads I d _ _ hd rfl
  refine repr_of_reads' rd hs (fun z => ?_) hg (by omega) (fun b o e => e) (fun h' t tk hk => ?_) hz
  · rw [hn] at z
    cases z
  · exact ⟨.str d.shown, H, I.kept hk, ⟨t, rfl⟩, q⟩
end
end WR
set_option Elab.async false
set_option linter.all false
set_option maxRecDepth 100000
/-! the law's own def, run at callerA alone: there nothing is being shown by repr, so repr may be called in it -/
namespace WR
open PySem PySem.Spec PyProof.Rows L2

/-- the promise of the law's own def, at the law's caller alone -/
def RunsG (P : Program) (w : World) (K : PySem.W.Frag) (mg : Str → Option Value) (base : Heap)
    (fa : Addr) (fd : FuncData) (x : Str) (sp : Sp) : Prop :=
  ∀ (s : Shared) (H : Hp) (u : Value) (v : V) (Q : VK), Env0 P w K mg base callerA [] s H →
    BindsTo s fd ⟨[u], []⟩ [(x, u)] → RelV v u → sp [v] H Q (fun _ _ _ => False) →
    codeAny (model P w) callerA (.call (.ref fa) ⟨[u], []⟩) (CR CX0 [] P w H s Q (fun _ _ _ => False)) s

section
variable {P : Program} {w : World} {K : PySem.W.Frag} {mg : Str → Option Value} {base : Heap}
theorem runsG_of {q : Str} {st : Stmt} {f : Addr} {fd : FuncData} {N : List Str} {x : Str} {k : Nat} {sp : Sp}
    (F : Fun K q q st f fd) (S : FnScope N [x] (defScope st)) (hk : Room (k + 1) callerA)
    (body : ∀ (cdv : Value) (s : Shared) (H : Hp) (v : V) (Q : VK),
      Room k (callerA.deeper (envOfC q (defScope st) s.heap.objs.size f cdv)) → sp [v] H Q (fun _ _ _ => False) →
      ∃ t, PSs (cxOf CX0 P w K mg base N q (defScope st) f cdv callerA [] s H (fun _ _ _ => False)).nox (defBody st) t ∧
        t { nx := fun _ H' => Q .non H', rt := Q } (start N [v]) H) :
    RunsG P w K mg base f fd x sp := by
  intro s H u v Q e0 hb rv hsp
  obtain ⟨oc, od, kV, doc, pm, an, cdv, ct, osl, rfl, lk, hcd⟩ := F.ex
  have inn : K.In s.heap :=
    e0.mod.kin.keeps fun b o e => (e0.bs b o e).1
  have nol : s.heap.NoLimit :=
    e0.mod.nolimit.keeps fun b o e => (e0.bs b o e).1
  have kinds : ∀ y ∈ [(x, u)], (defScope st).names.lookup y.1 = some .local ∨
      ((defScope st).names.lookup y.1 = some .cell ∧
        ((cellsFrom (s.heap.objs.size + 1) (defScope st).names []).lookup y.1).isSome = true) := by
    intro y hy
    rw [List.mem_singleton] at hy
    subst hy
    cases S.par x (List.mem_singleton.mpr rfl) with
    | inl z => exact .inl z
    | inr z => exact .inr ⟨z, PySem.W.cellsFrom_some _ _ _ (.inl z)⟩
  refine codeAny_call_function hk.depth (inn _ _ lk) rfl S.co S.gen rfl
    (PySem.W.codeRec_of inn hcd) (hb _ _ _ _ ?_)
  refine wpAny_newFunctionEnv_cells S.kind kinds fun env he s1 z => ?_
  subst he
  refine ⟨nol.keeps z.toInCall.keep, codeAny_func ?_⟩
  obtain ⟨t, ht, hq⟩ := body cdv s H v Q (hk.deeper _) hsp
  have J := inv_start (CX := CX0) (E := fun _ _ _ => False) (vs := [v]) (us := [u]) S hk.hd e0 rfl (.cons rv .nil) z
  refine wpAny_mono (ht.nox.run [] s1 (start N [v]) H _ J hq) (fun fl s' hs => ?_) (fun e s' hs => hs)
  cases fl with
  | ret u' =>
    obtain ⟨v', σ', H', I', r', q'⟩ := hs
    exact ⟨v', H', I'.os, I'.bare, I'.base, I'.hok, r', q'⟩
  | next =>
    obtain ⟨σ', H', I', q'⟩ := hs
    exact ⟨V.non, H', I'.os, I'.bare, I'.base, I'.hok, rfl, q'⟩
  | brk =>
    obtain ⟨_, _, _, no⟩ := hs
    exact no.elim
  | cont =>
    obtain ⟨_, _, _, no⟩ := hs
    exact no.elim
end

theorem law_callG {P : Program} {w : World} {K : PySem.W.Frag} {mg mb : Str → Option Value} {fa a : Addr}
    {fd : FuncData} {x : Str} {sp : Sp} {s₁ : Shared} {vs : List Value} {ns : List Int}
    (KX : K.In s₁.heap) (hns : s₁.heap.Ns mainGlobals mg) (hb : s₁.heap.Ns builtinsNs mb)
    (hbb : ∀ x : Str, x ≠ "__name__" → mb x = bootBuiltins x) (hlim : s₁.heap.NoLimit) (hg : s₁.gens = #[])
    (ha : s₁.heap.get? a = some { cls := .type "list", data := .seq vs.toArray }) (hi : IntsAre vs ns)
    (hl : ns.length ≤ sizeLine)
    (F : ∀ base : Heap, K.In base → base.Ns mainGlobals mg → RunsG P w K mg base fa fd x sp)
    (hbind : ∀ (s : Shared) (u : Value), BindsTo s fd ⟨[u], []⟩ [(x, u)])
    (hsp : ∀ H : Hp, Only H → SqL K H a (ns.map V.int) → sp [.ref a] H (fun v _ => v = .bl true) fun _ _ _ => False) :
    codeAny (model P w) callerA (.call (.ref fa) ⟨[.ref a], []⟩)
      (fun r s' => r = .ok (.ret (.bool true)) ∧ OldK s₁.heap s'.heap ∧ s'.os = s₁.os ∧ AllBare s'.gens) s₁ := by
  have main : ∀ H : Hp, Only H → SqL K H a (ns.map V.int) → HOk P w H s₁.heap →
      (∀ b, H b = none ∨ b = a) → (H a = none ∨ K.lookup a = none) →
      codeAny (model P w) callerA (.call (.ref fa) ⟨[.ref a], []⟩)
        (fun r s' => r = .ok (.ret (.bool true)) ∧ OldK s₁.heap s'.heap ∧ s'.os = s₁.os ∧ AllBare s'.gens) s₁ := by
    intro H hO hS hok hA hK
    have dictFree : ∀ {b : Addr} {o : Obj} {es : Array DictEntry} {ep : Nat},
        s₁.heap.get? b = some o → o.data = .dict es ep → H b = none := by
      intro b o es ep e d
      rcases hA b with n | rfl
      · exact n
      · rw [ha] at e
        cases e
        cases (show Data.seq vs.toArray _ = Data.dict es ep from d)
    have nsK : ∀ {b : Addr} {m : Str → Option Value}, s₁.heap.Ns b m → (hidT s₁.heap H).Ns b m :=
      fun {b m} ⟨o, es, ep, e, d, r⟩ => ⟨o, es, ep, hidT_get e (dictFree e d), d, r⟩
    have kinB : K.In (hidT s₁.heap H) := by
      intro b o e
      refine hidT_get (KX b o e) ?_
      rcases hA b with n | rfl
      · exact n
      · rcases hK with n | n
        · exact n
        · rw [n] at e
          cases e
    have modB : Mod K mg (hidT s₁.heap H) := by
      obtain ⟨mc, h1, h2⟩ := hlim
      exact ⟨kinB, nsK hns, ⟨mb, nsK hb, hbb⟩, ⟨mc, nsK h1, h2⟩⟩
    have env : Env0 P w K mg (hidT s₁.heap H) callerA [] s₁ H :=
      ⟨rfl, modB, fun b o e => of_hidT e, Nat.le_of_eq (hidT_size _ _), trivial, (fun b hb => by cases hb), hok, .of_eq hg⟩
    have run := F _ kinB (nsK hns) s₁ H (.ref a) (.ref a) (fun v _ => v = .bl true) env (hbind s₁ (.ref a)) rfl (hsp H hO hS)
    refine codeAny_mono run fun r s' h => ?_
    match r, h with
    | .error e, h => exact (show False from h).elim
    | .ok .next, h => exact (show False from h).elim
    | .ok .brk, h => exact (show False from h).elim
    | .ok .cont, h => exact (show False from h).elim
    | .ok (.ret u), h =>
      obtain ⟨v, H', os, bare, un, hok', rv, qv⟩ := h
      have qv' : v = .bl true := qv
      subst qv'
      have ru : u = Value.bool true := rv
      subst ru
      refine ⟨rfl, OldK.of_keep fun b o e => ?_, os, bare⟩
      rcases hO b with n | ⟨ob, ys, n⟩
      · exact un.keep b o e n (by intro z; cases z) (by simp)
      · obtain ⟨e1, _⟩ := hok b _ n
        obtain ⟨e2, _⟩ := hok' b _ (un.frzs b ob _ n)
        rw [e] at e1
        cases e1
        exact e2
  have rvs : Vals (ns.map V.int) vs := vals_ints hi
  have lenV : vs.length = ns.length := hi.length
  by_cases hk : ∃ o, K.lookup a = some o
  · obtain ⟨o, hk⟩ := hk
    have e := KX a o hk
    rw [ha] at e
    cases e
    refine main (fun _ => none) (fun _ => .inl rfl) (.inr ⟨_, vs.toArray, _, hk, rfl, rfl, rfl, ?_, by simpa using rvs⟩)
      (fun b u z => by cases (show (none : Option HO) = some u from z)) (fun b => .inl rfl) (.inl rfl)
    rw [List.size_toArray, lenV]
    exact hl
  · have hn : K.lookup a = none := by
      cases z : K.lookup a with
      | none => rfl
      | some o => exact absurd ⟨o, z⟩ hk
    let O : HO := .frz { cls := .type "list", data := .seq vs.toArray } (.lst (ns.map V.int))
    refine main (fun b => if b = a then some O else none) (fun b => ?_) (.inl (.inr ⟨_, if_pos rfl⟩)) (fun b u z => ?_)
      (fun b => ?_) (.inr hn)
    · by_cases hb : b = a
      · exact .inr ⟨_, _, if_pos hb⟩
      · exact .inl (if_neg hb)
    · by_cases hb : b = a
      · cases (if_pos hb).symm.trans z
        subst hb
        exact ⟨ha, by rw [List.length_map]; exact hl, vs, _, rvs, ha⟩
      · cases (if_neg hb).symm.trans z
    · by_cases hb : b = a
      · exact .inr hb
      · exact .inl (if_neg hb)

theorem walk_ofG {l : PySem.W.OpenLaw} {n : Nat} {q : Program} {loose : List Str}
    {XP : (Str → Option Value) → Heap → Prop} {YP : World → Heap → Prop} {d : DefRec}
    {K : Params → PySem.W.Frag} {sp : PySem.W.Frag → Sp} {x : Str}
    (hn : l.most = some n) (hn2 : n ≤ sizeLine) (hdf : d.params.defaults = [])
    (hY : ∀ (w : World) (h : Heap), YP w h → (K w.params).In h)
    (F : ∀ (w : World) (mg : Str → Option Value) (fa : Addr) (h : Heap), (K w.params).In h → h.Ns mainGlobals mg →
      mg d.name = some (.ref fa) →
      ∃ fd : FuncData, (∀ (s : Shared) (u : Value), BindsTo s fd ⟨[u], []⟩ [(x, u)]) ∧
        ∀ base : Heap, (K w.params).In base → base.Ns mainGlobals mg →
          RunsG l.prog w (K w.params) mg base fa fd x (sp (K w.params)))
    (hsp : ∀ (K : PySem.W.Frag) (H : Hp) (a : Addr) (ns : List Int), ns.length ≤ n → Only H →
      SqL K H a (ns.map V.int) → sp K [.ref a] H (fun v _ => v = .bl true) fun _ _ _ => False) :
    PySem.W.WalkO q loose XP YP l.row.toRowW d [] (fun f vs => PySem.call f vs) := by
  apply Att.attach_call hn hdf
  intro w s₀ s₁ mg mb fa o pm cd doc a vs ns G Y ho hd hcd hmg hobj hints hlen hg
  have KX := hY w _ Y
  obtain ⟨fd, hb, hF⟩ := F w mg fa _ KX G.T.g hmg
  exact law_callG KX G.T.g G.T.b G.T.builtins G.T.nolimit hg hobj hints (Nat.le_trans hlen hn2) hF hb
    (fun H hO hS => hsp _ H a ns hlen hO hS)
end WR
set_option Elab.async false
set_option linter.all false
set_option maxRecDepth 100000
set_option maxHeartbeats 1000000
/-! readings upon data: what evaluates to which datum, wherever the heap has grown -/
namespace WR
open PySem PySem.Spec PyProof.Rows L2 Evl

/-! ### data in a heap that grows -/
mutual
theorem dp_ex {K : PySem.W.Frag} {H H' : Hp} (e : Ex H H') : ∀ {v : V} (d : PyData), Dp K H v d → Dp K H' v d
  | _, .none, h => by cases h; exact .non
  | _, .bool _, h => by cases h; exact .bl _
  | _, .int _, h => by cases h; exact .int _
  | _, .str _, h => by cases h; exact .str _
  | _, .list ds, h => by
    cases h with
    | lst a b => exact .lst (ex_l e a) (dpAll_ex e ds b)
  | _, .tuple ds, h => by
    cases h with
    | tup a b => exact .tup (ex_t e a) (dpAll_ex e ds b)
  | _, .dict _, h => by cases h
theorem dpAll_ex {K : PySem.W.Frag} {H H' : Hp} (e : Ex H H') : ∀ {vs : List V} (ds : List PyData), DpAll K H vs ds → DpAll K H' vs ds
  | _, [], h => by cases h; exact .nil
  | _, d :: ds, h => by
    cases h with
    | cons a b => exact .cons (dp_ex e d a) (dpAll_ex e ds b)
end
section
variable {K : PySem.W.Frag} {H H' : Hp}
theorem dpAll_len : ∀ {vs : List V} {ds : List PyData}, DpAll K H vs ds → vs.length = ds.length
  | _, [], h => by cases h; rfl
  | _, _ :: _, h => by
    cases h with
    | cons a b => simp [dpAll_len b]
theorem dpAll_at : ∀ {vs : List V} {ds : List PyData} {i : Nat} {v : V}, DpAll K H vs ds → vs[i]? = some v → ∃ d, ds[i]? = some d ∧ Dp K H v d
  | _, [], _, _, h, e => by cases h; simp at e
  | _, _ :: _, 0, _, h, e => by
    cases h with
    | cons a b => exact ⟨_, rfl, by simp at e; rw [← e]; exact a⟩
  | _, _ :: _, i + 1, _, h, e => by
    cases h with
    | cons a b =>
      obtain ⟨d, h1, h2⟩ := dpAll_at (i := i) b (by simpa using e)
      exact ⟨d, by simpa using h1, h2⟩
theorem dpAll_at' : ∀ {vs : List V} {ds : List PyData} {i : Nat} {d : PyData}, DpAll K H vs ds → ds[i]? = some d → ∃ v, vs[i]? = some v ∧ Dp K H v d
  | _, [], _, _, h, e => by simp at e
  | _, _ :: _, 0, _, h, e => by
    cases h with
    | cons a b => exact ⟨_, rfl, by simp at e; rw [← e]; exact a⟩
  | _, _ :: _, i + 1, _, h, e => by
    cases h with
    | cons a b =>
      obtain ⟨v, h1, h2⟩ := dpAll_at' (i := i) b (by simpa using e)
      exact ⟨v, by simpa using h1, h2⟩
theorem dpAll_snoc : ∀ {vs : List V} {ds : List PyData} {v : V} {d : PyData}, DpAll K H vs ds → Dp K H v d → DpAll K H (vs ++ [v]) (ds ++ [d])
  | _, [], _, _, h, a => by cases h; exact .cons a .nil
  | _, _ :: _, _, _, h, a => by
    cases h with
    | cons b c => exact .cons b (dpAll_snoc c a)
theorem dpAll_app : ∀ {vs ws : List V} {ds es : List PyData}, DpAll K H vs ds → DpAll K H ws es → DpAll K H (vs ++ ws) (ds ++ es)
  | _, _, [], _, h, a => by cases h; exact a
  | _, _, _ :: _, _, h, a => by
    cases h with
    | cons b c => exact .cons b (dpAll_app c a)
theorem dpAll_drop : ∀ {vs : List V} {ds : List PyData} (n : Nat), DpAll K H vs ds → DpAll K H (vs.drop n) (ds.drop n)
  | _, _, 0, h => by simpa using h
  | _, [], n + 1, h => by cases h; exact .nil
  | _, _ :: _, n + 1, h => by
    cases h with
    | cons a b => exact dpAll_drop n b
theorem dpAll_take : ∀ {vs : List V} {ds : List PyData} (n : Nat), DpAll K H vs ds → DpAll K H (vs.take n) (ds.take n)
  | _, _, 0, h => .nil
  | _, [], n + 1, h => by cases h; exact .nil
  | _, _ :: _, n + 1, h => by
    cases h with
    | cons a b => exact .cons a (dpAll_take n b)
theorem dpAll_ints : ∀ (ns : List Int), DpAll K H (ns.map V.int) (ns.map PyData.int)
  | [] => .nil
  | _ :: ns => .cons (.int _) (dpAll_ints ns)
theorem dpAll_bls : ∀ (ns : List Bool), DpAll K H (ns.map V.bl) (ns.map PyData.bool)
  | [] => .nil
  | _ :: ns => .cons (.bl _) (dpAll_bls ns)
theorem ints_of : ∀ {vs : List V} {ns : List Int}, DpAll K H vs (ns.map PyData.int) → vs = ns.map V.int
  | _, [], h => by cases h; rfl
  | _, _ :: ns, h => by
    cases h with
    | cons a b => cases a; rw [ints_of b]; rfl
theorem bls_of : ∀ {vs : List V} {ns : List Bool}, DpAll K H vs (ns.map PyData.bool) → vs = ns.map V.bl
  | _, [], h => by cases h; rfl
  | _, _ :: ns, h => by
    cases h with
    | cons a b => cases a; rw [bls_of b]; rfl
theorem dp_tup {v : V} {ds : List PyData} (h : Dp K H v (.tuple ds)) : ∃ a xs, v = .ref a ∧ SqT K H a xs ∧ DpAll K H xs ds := by
  cases h with
  | tup a b => exact ⟨_, _, rfl, a, b⟩
theorem dp_lst {v : V} {ds : List PyData} (h : Dp K H v (.list ds)) : ∃ a xs, v = .ref a ∧ SqL K H a xs ∧ DpAll K H xs ds := by
  cases h with
  | lst a b => exact ⟨_, _, rfl, a, b⟩
theorem dp_int {v : V} {i : Int} (h : Dp K H v (.int i)) : v = .int i := by cases h; rfl
theorem dp_bl {v : V} {i : Bool} (h : Dp K H v (.bool i)) : v = .bl i := by cases h; rfl
theorem dp_non {v : V} (h : Dp K H v .none) : v = .non := by cases h; rfl
end

/-! data without lists and dicts within -/
mutual
def nl : PyData → Bool
  | .list _ => false
  | .dict _ => false
  | .tuple ds => nlAll ds
  | _ => true
def nlAll : List PyData → Bool
  | [] => true
  | d :: ds => nl d && nlAll ds
end
theorem nlAll_mem : ∀ {ds : List PyData}, (∀ d ∈ ds, nl d = true) → nlAll ds = true
  | [], _ => rfl
  | d :: ds, h => by
    show (nl d && nlAll ds) = true
    rw [h d (List.mem_cons_self ..), nlAll_mem fun x hx => h x (List.mem_cons_of_mem _ hx)]
    rfl
theorem ex_tL {K : PySem.W.Frag} {H : Hp} {a l : Addr} {xs ys zs : List V} (hl : H l = some (.lst ys)) (h : SqT K H a xs) : SqT K (upd H l (.lst zs)) a xs := by
  rcases h with (h | ⟨o, h⟩) | h
  · exact .inl (.inl (by rw [upd_ne (ne_of h hl (by intro z; cases z))]; exact h))
  · exact .inl (.inr ⟨o, by rw [upd_ne (ne_of h hl (by intro z; cases z))]; exact h⟩)
  · exact .inr h
mutual
/-- a list that changes changes no such datum -/
theorem dp_updL {K : PySem.W.Frag} {H : Hp} {l : Addr} {ys zs : List V} (hl : H l = some (.lst ys)) : ∀ {v : V} (d : PyData), nl d = true → Dp K H v d → Dp K (upd H l (.lst zs)) v d
  | _, .none, _, h => by cases h; exact .non
  | _, .bool _, _, h => by cases h; exact .bl _
  | _, .int _, _, h => by cases h; exact .int _
  | _, .str _, _, h => by cases h; exact .str _
  | _, .list ds, n, h => by cases n
  | _, .tuple ds, n, h => by
    cases h with
    | tup a b => exact .tup (ex_tL hl a) (dpAll_updL hl ds n b)
  | _, .dict _, _, h => by cases h
theorem dpAll_updL {K : PySem.W.Frag} {H : Hp} {l : Addr} {ys zs : List V} (hl : H l = some (.lst ys)) : ∀ {vs : List V} (ds : List PyData), nlAll ds = true → DpAll K H vs ds → DpAll K (upd H l (.lst zs)) vs ds
  | _, [], _, h => by cases h; exact .nil
  | _, d :: ds, n, h => by
    have n' : (nl d && nlAll ds) = true := n
    rw [Bool.and_eq_true] at n'
    cases h with
    | cons a b => exact .cons (dp_updL hl d n'.1 a) (dpAll_updL hl ds n'.2 b)
end

/-! ### what evaluates to which datum -/
def EvD (K : PySem.W.Frag) (te : TE) (σ : L2.St) (H : Hp) (d : PyData) : Prop := ∀ H1, Ex H H1 → ∀ Q : VK, (∀ v H2, Ex H1 H2 → Dp K H2 v d → Q v H2) → te σ H1 Q
def EvDA (K : PySem.W.Frag) (ta : TA) (σ : L2.St) (H : Hp) (ds : List PyData) : Prop := ∀ H1, Ex H H1 → ∀ Q : List V → Hp → Prop, (∀ vs H2, Ex H1 H2 → DpAll K H2 vs ds → Q vs H2) → ta σ H1 Q
/-- a new list of data -/
def EvN (K : PySem.W.Frag) (te : TE) (σ : L2.St) (H : Hp) (ds : List PyData) : Prop := ∀ H1, Ex H H1 → ∀ Q : VK, (∀ p xs H2, H1 p = none → Ex H1 H2 → H2 p = some (.lst xs) → DpAll K H2 xs ds → Q (.ref p) H2) → te σ H1 Q
/-- a promise: called with the data ds, it hands back the datum F ds -/
def spD (K : PySem.W.Frag) (F : List PyData → Option PyData) : Sp := fun vs H Q _ => ∃ ds r, DpAll K H vs ds ∧ F ds = some r ∧ ∀ v H', Ex H H' → Dp K H' v r → Q v H'

section
variable {K : PySem.W.Frag} {σ : L2.St} {H H' : Hp} {ta tb te tx : TE} {t u : TT} {x y z v : V} {r : R2} {d d1 d2 : PyData} {ds es : List PyData}
theorem EvD.mono (e : Ex H H') (h : EvD K te σ H d) : EvD K te σ H' d := fun H1 a Q q => h H1 (e.trans a) Q q
theorem EvN.mono (e : Ex H H') (h : EvN K te σ H ds) : EvN K te σ H' ds := fun H1 a Q q => h H1 (e.trans a) Q q
theorem EvDA.mono {ta : TA} (e : Ex H H') (h : EvDA K ta σ H ds) : EvDA K ta σ H' ds := fun H1 a Q q => h H1 (e.trans a) Q q
theorem ed_ev (h : Ev te σ H v) (hd : Dp K H v d) : EvD K te σ H d := fun H1 e Q q => h H1 e Q fun H2 e2 => q v H2 e2 (dp_ex (e.trans e2) d hd)
theorem ed_n (h : EvN K te σ H ds) : EvD K te σ H (.list ds) := fun H1 e Q q => h H1 e Q fun p xs H2 _ e2 hp hd => q _ H2 e2 (.lst (sq_of hp) hd)
theorem ev_i {i : Int} (h : EvD K te σ H (.int i)) : Ev te σ H (.int i) := fun H1 e Q q => h H1 e Q fun v H2 e2 hv => by
  cases dp_int hv
  exact q H2 e2
theorem ev_b {i : Bool} (h : EvD K te σ H (.bool i)) : Ev te σ H (.bl i) := fun H1 e Q q => h H1 e Q fun v H2 e2 hv => by
  cases dp_bl hv
  exact q H2 e2
theorem ed_i {i : Int} (h : Ev te σ H (.int i)) : EvD K te σ H (.int i) := ed_ev h (.int i)
theorem ed_b {i : Bool} (h : Ev te σ H (.bl i)) : EvD K te σ H (.bool i) := ed_ev h (.bl i)
theorem ed_var {i : Nat} (h : σ[i]? = some (some v)) (hd : Dp K H v d) : EvD K (tVar i) σ H d := ed_ev (ev_var h) hd
theorem ed_is (h : EvD K te σ H d) (e : d = d1) : EvD K te σ H d1 := by
  rw [← e]
  exact h
theorem eda_nil : EvDA K tNil σ H [] := fun H1 _ _ q => q [] H1 (Ex.refl H1) .nil
theorem eda_cons {tr : TA} (h : EvD K te σ H d) (hr : EvDA K tr σ H ds) : EvDA K (tCons te tr) σ H (d :: ds) := fun H1 e Q q =>
  h H1 e _ fun v H2 e2 hv => hr H2 (e.trans e2) _ fun vs H3 e3 hvs => q _ H3 (e2.trans e3) (.cons (dp_ex e3 d hv) hvs)
theorem ed_call {F : List PyData → Option PyData} {E : XK} {ta : TA} (h : EvDA K ta σ H ds) (hf : F ds = some d) : EvD K (tCall (spD K F) [] E ta) σ H d := fun H1 e Q q =>
  h H1 e _ fun vs H2 e2 hv => by
    rw [List.append_nil]
    exact ⟨ds, d, hv, hf, fun v H3 e3 hd => q v H3 (e2.trans e3) hd⟩
/-- an item of a tuple, of a list -/
theorem ed_ixT {n : Nat} {i : Int} (ha : EvD K ta σ H (.tuple ds)) (hb : EvD K tb σ H (.int i)) (hi : i = (n : Int)) (hx : ds[n]? = some d) : EvD K (tOp (rIxT K) ta tb) σ H d := fun H1 e Q q =>
  ha H1 e _ fun v H2 e2 hv => hb H2 (e.trans e2) _ fun w H3 e3 hw => by
    obtain ⟨a, xs, rfl, hs, hd⟩ := dp_tup (dp_ex e3 _ hv)
    cases dp_int hw
    obtain ⟨x, hx1, hx2⟩ := dpAll_at' hd hx
    subst hi
    exact ⟨a, xs, _, x, rfl, rfl, hs, atI_nat hx1, q x H3 (e2.trans e3) hx2⟩
theorem ed_ixL {n : Nat} {i : Int} (ha : EvD K ta σ H (.list ds)) (hb : EvD K tb σ H (.int i)) (hi : i = (n : Int)) (hx : ds[n]? = some d) : EvD K (tOp (rIxL K) ta tb) σ H d := fun H1 e Q q =>
  ha H1 e _ fun v H2 e2 hv => hb H2 (e.trans e2) _ fun w H3 e3 hw => by
    obtain ⟨a, xs, rfl, hs, hd⟩ := dp_lst (dp_ex e3 _ hv)
    cases dp_int hw
    obtain ⟨x, hx1, hx2⟩ := dpAll_at' hd hx
    subst hi
    exact ⟨a, xs, _, x, rfl, rfl, hs, atI_nat hx1, q x H3 (e2.trans e3) hx2⟩
/-- len -/
theorem ed_lenT (h : EvD K te σ H (.tuple ds)) : Ev (tCB (fun xs H Q => ∃ p ys, xs = [.ref p] ∧ (SqL K H p ys ∨ SqT K H p ys) ∧ Q (.int ys.length) H) (tCons te tNil)) σ H (.int (ds.length : Int)) := fun H1 e Q q =>
  h H1 e _ fun v H2 e2 hv => by
    obtain ⟨a, xs, rfl, hs, hd⟩ := dp_tup hv
    refine ⟨a, xs, rfl, .inr hs, ?_⟩
    rw [dpAll_len hd]
    exact q H2 e2
theorem ed_lenL (h : EvD K te σ H (.list ds)) : Ev (tCB (fun xs H Q => ∃ p ys, xs = [.ref p] ∧ (SqL K H p ys ∨ SqT K H p ys) ∧ Q (.int ys.length) H) (tCons te tNil)) σ H (.int (ds.length : Int)) := fun H1 e Q q =>
  h H1 e _ fun v H2 e2 hv => by
    obtain ⟨a, xs, rfl, hs, hd⟩ := dp_lst hv
    refine ⟨a, xs, rfl, .inl hs, ?_⟩
    rw [dpAll_len hd]
    exact q H2 e2
/-- tuple(list) -/
theorem ed_tupL (h : EvD K te σ H (.list ds)) : EvD K (tCB (fun xs H Q => ∃ p ys, xs = [.ref p] ∧ ((SqL K H p ys ∧ ∀ l, H l = none → Q (.ref l) (upd H l (.tup ys))) ∨ (SqT K H p ys ∧ Q (.ref p) H))) (tCons te tNil)) σ H (.tuple ds) := fun H1 e Q q =>
  h H1 e _ fun v H2 e2 hv => by
    obtain ⟨a, xs, rfl, hs, hd⟩ := dp_lst hv
    exact ⟨a, xs, rfl, .inl ⟨hs, fun l hl => q _ _ (e2.trans (Ex.new hl)) (.tup (st_of upd_same) (dpAll_ex (Ex.new hl) ds hd))⟩⟩
/-- a tuple written, a list written -/
theorem ed_tup {ta : TA} (h : EvDA K ta σ H ds) (hl : ds.length ≤ 100000) : EvD K (tTup ta) σ H (.tuple ds) := fun H1 e Q q =>
  h H1 e _ fun vs H2 e2 hv => ⟨sz_of (by rw [dpAll_len hv]; exact hl), fun p hp => q _ _ (e2.trans (Ex.new hp)) (.tup (st_of upd_same) (dpAll_ex (Ex.new hp) ds hv))⟩
theorem ed_lst {ta : TA} (h : EvDA K ta σ H ds) (hl : ds.length ≤ 100000) : EvN K (tLst ta) σ H ds := fun H1 e Q q =>
  h H1 e _ fun vs H2 e2 hv => ⟨sz_of (by rw [dpAll_len hv]; exact hl), fun p hp => q p vs _ (fresh_back e2 hp) (e2.trans (Ex.new hp)) upd_same (dpAll_ex (Ex.new hp) ds hv)⟩
/-- all(list of truths) -/
theorem ed_all {bs : List Bool} (h : EvD K te σ H (.list (bs.map PyData.bool))) : Ev (tCB (rAll K) (tCons te tNil)) σ H (.bl (bs.all id)) := fun H1 e Q q =>
  h H1 e _ fun v H2 e2 hv => by
    obtain ⟨a, xs, rfl, hs, hd⟩ := dp_lst hv
    rw [bls_of hd] at hs
    exact ⟨a, bs, rfl, hs, q H2 e2⟩
/-- tuple + tuple -/
theorem ed_cat (ha : EvD K ta σ H (.tuple ds)) (hb : EvD K tb σ H (.tuple es)) (hl : ds.length + es.length ≤ 100000) : EvD K (tOp (rCatA K) ta tb) σ H (.tuple (ds ++ es)) := fun H1 e Q q =>
  ha H1 e _ fun v H2 e2 hv => hb H2 (e.trans e2) _ fun w H3 e3 hw => by
    obtain ⟨a, xs, rfl, hs, hd⟩ := dp_tup (dp_ex e3 _ hv)
    obtain ⟨b, ys, rfl, ht, he⟩ := dp_tup hw
    refine ⟨a, b, xs, ys, rfl, rfl, hs, ht, sz_of (by rw [dpAll_len hd, dpAll_len he]; exact hl), fun z => ?_, fun _ z => ?_, fun _ _ p hp => ?_⟩
    · subst z
      have : ds = [] := by
        have := dpAll_len hd
        cases ds with
        | nil => rfl
        | cons _ _ => simp at this
      subst this
      exact q _ H3 (e2.trans e3) hw
    · subst z
      have : es = [] := by
        have := dpAll_len he
        cases es with
        | nil => rfl
        | cons _ _ => simp at this
      subst this
      exact q _ H3 (e2.trans e3) (by rw [List.append_nil]; exact .tup hs hd)
    · exact q _ _ ((e2.trans e3).trans (Ex.new hp)) (.tup (st_of upd_same) (dpAll_app (dpAll_ex (Ex.new hp) ds hd) (dpAll_ex (Ex.new hp) es he)))
end

/-! ### statements -/
section
variable {K : PySem.W.Frag} {σ : L2.St} {H H' : Hp} {ta tb te tx : TE} {t u : TT} {x y z v : V} {D : Ends} {tu tw tz : TS} {g : TG} {d d1 d2 : PyData} {ds : List PyData}
theorem s_retD (h : EvD K te σ H d) (k : ∀ v H1, Ex H H1 → Dp K H1 v d → D.rt v H1) : tRet te D σ H := h H (Ex.refl H) _ k
theorem s_asgD {i : Nat} (h : EvD K te σ H d) (k : ∀ v H1, Ex H H1 → Dp K H1 v d → D.nx (σ.set i (some v)) H1) : tAsg te (gName i) D σ H := h H (Ex.refl H) _ k
theorem q_asgD {i : Nat} (h : EvD K te σ H d) (k : ∀ v H1, Ex H H1 → Dp K H1 v d → tz D (σ.set i (some v)) H1) : tSeq (tAsg te (gName i)) tz D σ H := h H (Ex.refl H) _ k
theorem q_asgN {i : Nat} (h : EvN K te σ H ds) (k : ∀ p xs H1, H p = none → Ex H H1 → H1 p = some (.lst xs) → DpAll K H1 xs ds → tz D (σ.set i (some (.ref p))) H1) : tSeq (tAsg te (gName i)) tz D σ H := h H (Ex.refl H) _ k
theorem q_unp2 {i j : Nat} (h : EvD K te σ H (.tuple [d1, d2])) (k : ∀ v w H1, Ex H H1 → Dp K H1 v d1 → Dp K H1 w d2 → tz D ((σ.set i (some v)).set j (some w)) H1) :
    tSeq (tAsg te (gTup K 2 (gCons (gName i) (gCons (gName j) gNil)))) tz D σ H := h H (Ex.refl H) _ fun v H1 e hv => by
  obtain ⟨a, xs, rfl, hs, hd⟩ := dp_tup hv
  cases hd with
  | cons h1 hd =>
    cases hd with
    | cons h2 hd =>
      cases hd
      exact ⟨a, _, rfl, hs, rfl, _, _, rfl, _, _, rfl, rfl, k _ _ H1 e h1 h2⟩
end

/-! ### what a for, a comprehension walks -/
/-- wi gives the data ds, one by one; wherever the heap has grown from H (stable: G) -/
def Src (K : PySem.W.Frag) (wi : TI) (σ : L2.St) (H : Hp) (ds : List PyData) : Prop :=
  ∀ H1, Ex H H1 → ∀ R : It → Hp → Prop, (∀ J H2 (G : Hp → Prop), Ex H1 H2 → (∀ H', Ex H2 H' → G H') →
    Walk J ds.length G (fun i H x H' => H' = H ∧ ∃ d, ds[i]? = some d ∧ Dp K H x d) → R J H2) → wi σ H1 R
/-- the same where the walked object stood in H already -/
def SrcS (K : PySem.W.Frag) (wi : TI) (σ : L2.St) (H : Hp) (ds : List PyData) : Prop :=
  ∀ H1, Ex H H1 → ∀ R : It → Hp → Prop, (∀ J H2 (G : Hp → Prop), Ex H1 H2 → (∀ H', Ex H H' → G H') →
    Walk J ds.length G (fun i Hc x H' => H' = Hc ∧ ∃ d, ds[i]? = some d ∧ Dp K H x d) → R J H2) → wi σ H1 R
section
variable {K : PySem.W.Frag} {σ : L2.St} {H H' : Hp} {ta tb te tx tl : TE} {t u : TT} {x y z v : V} {D : Ends} {tu tw tz : TS} {g : TG} {d d1 d2 : PyData} {ds : List PyData} {wi : TI}
theorem SrcS.src (h : SrcS K wi σ H ds) : Src K wi σ H ds := fun H1 e R k => h H1 e R fun J H2 G e2 hg w =>
  k J H2 (fun H' => Ex H H') e2 (fun H' e3 => (e.trans e2).trans e3) (w.mono (fun H' e3 => hg H' e3) fun i Hc x H' _ e3 hy => ⟨hy.1, by
    obtain ⟨d, h1, h2⟩ := hy.2
    exact ⟨d, h1, dp_ex e3 _ h2⟩⟩)
theorem walk_sT {H0 : Hp} {a : Addr} {xs : List V} (hd : DpAll K H0 xs ds) : Walk (Itt K a) ds.length (fun H => SqT K H a xs) (fun i Hc x H' => H' = Hc ∧ ∃ d, ds[i]? = some d ∧ Dp K H0 x d) := by
  rw [← dpAll_len hd]
  exact (walk_tup (K := K) (a := a) (xs := xs)).mono (fun H h => h) fun i H x H' hi hg hy => ⟨hy.1, dpAll_at hd hy.2⟩
theorem walk_sL {H0 : Hp} {a : Addr} {xs : List V} (hd : DpAll K H0 xs ds) : Walk (Itl K a) ds.length (fun H => SqL K H a xs) (fun i Hc x H' => H' = Hc ∧ ∃ d, ds[i]? = some d ∧ Dp K H0 x d) := by
  rw [← dpAll_len hd]
  exact (walk_list (K := K) (a := a) (xs := xs)).mono (fun H h => h) fun i H x H' hi hg hy => ⟨hy.1, dpAll_at hd hy.2⟩
theorem Src.mono (e : Ex H H') (h : Src K wi σ H ds) : Src K wi σ H' ds := fun H1 a R k => h H1 (e.trans a) R k
theorem walk_dT {a : Addr} {xs : List V} (hn : xs.length = ds.length) : Walk (Itt K a) ds.length (fun H => SqT K H a xs ∧ DpAll K H xs ds) (fun i H x H' => H' = H ∧ ∃ d, ds[i]? = some d ∧ Dp K H x d) := by
  rw [← hn]
  refine (walk_tup (K := K) (a := a) (xs := xs)).mono (fun H h => h.1) (fun i H x H' hi hg hy => ⟨hy.1, ?_⟩)
  exact dpAll_at hg.2 hy.2
theorem walk_dL {a : Addr} {xs : List V} (hn : xs.length = ds.length) : Walk (Itl K a) ds.length (fun H => SqL K H a xs ∧ DpAll K H xs ds) (fun i H x H' => H' = H ∧ ∃ d, ds[i]? = some d ∧ Dp K H x d) := by
  rw [← hn]
  refine (walk_list (K := K) (a := a) (xs := xs)).mono (fun H h => h.1) (fun i H x H' hi hg hy => ⟨hy.1, ?_⟩)
  exact dpAll_at hg.2 hy.2
theorem src_T (h : EvD K tl σ H (.tuple ds)) : Src K (iTup K tl) σ H ds := fun H1 e R k => h H1 e _ fun v H2 e2 hv => by
  obtain ⟨a, xs, rfl, hs, hd⟩ := dp_tup hv
  exact ⟨a, rfl, ⟨xs, hs⟩, k _ H2 _ e2 (fun H' e3 => ⟨ex_t e3 hs, dpAll_ex e3 ds hd⟩) (walk_dT (dpAll_len hd))⟩
theorem src_L (h : EvD K tl σ H (.list ds)) : Src K (iList K tl) σ H ds := fun H1 e R k => h H1 e _ fun v H2 e2 hv => by
  obtain ⟨a, xs, rfl, hs, hd⟩ := dp_lst hv
  exact ⟨a, rfl, ⟨xs, hs⟩, k _ H2 _ e2 (fun H' e3 => ⟨ex_l e3 hs, dpAll_ex e3 ds hd⟩) (walk_dL (dpAll_len hd))⟩
theorem srcS_T (h : Ev tl σ H v) (hv : Dp K H v (.tuple ds)) : SrcS K (iTup K tl) σ H ds := fun H1 e R k => h H1 e _ fun H2 e2 => by
  obtain ⟨a, xs, rfl, hs, hd⟩ := dp_tup hv
  exact ⟨a, rfl, ⟨xs, ex_t (e.trans e2) hs⟩, k _ H2 _ e2 (fun H' e3 => ex_t e3 hs) (walk_sT hd)⟩
theorem srcS_L (h : Ev tl σ H v) (hv : Dp K H v (.list ds)) : SrcS K (iList K tl) σ H ds := fun H1 e R k => h H1 e _ fun H2 e2 => by
  obtain ⟨a, xs, rfl, hs, hd⟩ := dp_lst hv
  exact ⟨a, rfl, ⟨xs, ex_l (e.trans e2) hs⟩, k _ H2 _ e2 (fun H' e3 => ex_l e3 hs) (walk_sL hd)⟩
/-- the ints of a range -/
def rngD (lo : Int) (n : Nat) : List PyData := (List.range n).map fun (k : Nat) => PyData.int (lo + (k : Int))
theorem rngD_len {lo : Int} {n : Nat} : (rngD lo n).length = n := by unfold rngD; rw [List.length_map, List.length_range]
theorem rngD_at {lo : Int} {n i : Nat} (h : i < n) : (rngD lo n)[i]? = some (.int (lo + (i : Int))) := by unfold rngD; rw [List.getElem?_map, List.getElem?_range h]; rfl
theorem walk_dR {H0 : Hp} {lo : Int} {n : Nat} : Walk (Itr lo n) (rngD lo n).length (fun _ => True) (fun i Hc x H' => H' = Hc ∧ ∃ d, (rngD lo n)[i]? = some d ∧ Dp K H0 x d) := by
  rw [rngD_len]
  refine (walk_range (lo := lo) (n := n)).mono (fun H h => h) (fun i H x H' hi hg hy => ⟨hy.1, _, rngD_at hi, ?_⟩)
  rw [hy.2]
  exact .int _
theorem srcS_R1 {ta : TA} {n : Int} (h : EvA ta σ H [.int n]) (h1 : -100000000 ≤ n ∧ n ≤ 100000000) : SrcS K (iRng1 ta) σ H (rngD 0 n.toNat) := fun H1 e R k => h H1 e _ fun H2 e2 =>
  ⟨n, rfl, by omega, by omega, k _ H2 _ e2 (fun _ _ => trivial) walk_dR⟩
theorem srcS_R2 {ta : TA} {lo n : Int} (h : EvA ta σ H [.int lo, .int n]) (h1 : -100000000 ≤ n ∧ n ≤ 100000000 ∧ -100000000 ≤ lo ∧ lo ≤ 100000000) : SrcS K (iRng2 ta) σ H (rngD lo (n - lo).toNat) := fun H1 e R k => h H1 e _ fun H2 e2 =>
  ⟨lo, n, rfl, ⟨by omega, by omega, by omega, by omega⟩, k _ H2 _ e2 (fun _ _ => trivial) walk_dR⟩

/-! ### loops -/
theorem q_forS {H0 : Hp} {j : Nat} (e0 : Ex H0 H) (h : SrcS K wi σ H0 ds) (Pv : Nat → L2.St → Hp → Prop) (h0 : ∀ H1, Ex H H1 → Pv 0 σ H1) (hG : ∀ i σ' H', Pv i σ' H' → Ex H0 H')
    (hs : ∀ i d x σ' H', ds[i]? = some d → Dp K H0 x d → Pv i σ' H' → tu { D with nx := Pv (i + 1), ct := Pv (i + 1), bk := tz D } (σ'.set j (some x)) H') (hd : ∀ σ' H', Pv ds.length σ' H' → tz D σ' H') :
    tSeq (tFor wi (gName j) tu) tz D σ H := h H e0 _ fun J H2 G e2 hg w =>
  for_it w (D := { D with nx := tz D }) Pv (h0 H2 e2) (fun i σ' H' _ p => hg H' (hG i σ' H' p)) (fun i x σ' Hc H' hi p hy => by
    obtain ⟨rfl, d, h1, h2⟩ := hy
    exact hs i d x σ' H' h1 h2 p) hd
theorem s_forS {H0 : Hp} {j : Nat} (e0 : Ex H0 H) (h : SrcS K wi σ H0 ds) (Pv : Nat → L2.St → Hp → Prop) (h0 : ∀ H1, Ex H H1 → Pv 0 σ H1) (hG : ∀ i σ' H', Pv i σ' H' → Ex H0 H')
    (hs : ∀ i d x σ' H', ds[i]? = some d → Dp K H0 x d → Pv i σ' H' → tu { D with nx := Pv (i + 1), ct := Pv (i + 1), bk := D.nx } (σ'.set j (some x)) H') (hd : ∀ σ' H', Pv ds.length σ' H' → D.nx σ' H') :
    tFor wi (gName j) tu D σ H := h H e0 _ fun J H2 G e2 hg w =>
  for_it w (D := D) Pv (h0 H2 e2) (fun i σ' H' _ p => hg H' (hG i σ' H' p)) (fun i x σ' Hc H' hi p hy => by
    obtain ⟨rfl, d, h1, h2⟩ := hy
    exact hs i d x σ' H' h1 h2 p) hd
/-- over what may be new: the heap H2 behind its making -/
theorem q_forD {j : Nat} (h : Src K wi σ H ds) (Pv : Hp → Nat → L2.St → Hp → Prop) (h0 : ∀ H1, Ex H H1 → Pv H1 0 σ H1) (hG : ∀ H2 i σ' H', Pv H2 i σ' H' → Ex H2 H')
    (hs : ∀ H2 i d x σ' H', Ex H H2 → ds[i]? = some d → Dp K H' x d → Pv H2 i σ' H' → tu { D with nx := Pv H2 (i + 1), ct := Pv H2 (i + 1), bk := tz D } (σ'.set j (some x)) H') (hd : ∀ H2 σ' H', Ex H H2 → Pv H2 ds.length σ' H' → tz D σ' H') :
    tSeq (tFor wi (gName j) tu) tz D σ H := h H (Ex.refl H) _ fun J H2 G e2 hg w =>
  for_it w (D := { D with nx := tz D }) (Pv H2) (h0 H2 e2) (fun i σ' H' _ p => hg H' (hG H2 i σ' H' p)) (fun i x σ' Hc H' hi p hy => by
    obtain ⟨rfl, d, h1, h2⟩ := hy
    exact hs H2 i d x σ' H' e2 h1 h2 p) fun σ' H' p => hd H2 σ' H' e2 p
/-- for k in range(..): if c(k): return r(k) -/
theorem q_find {j : Nat} {lo : Int} {n : Nat} (h : SrcS K wi σ H (rngD lo n)) (b : Nat → Bool)
    (ht : ∀ k H1, k < n → Ex H H1 → EvT t (σ.set j (some (.int (lo + (k : Int))))) H1 (b k))
    (hr : ∀ k H1 D', k < n → b k = true → (∀ i, i < k → b i = false) → Ex H H1 → D'.rt = D.rt → tu D' (σ.set j (some (.int (lo + (k : Int))))) H1)
    (hd : (∀ k, k < n → b k = false) → ∀ σ' H1, Ex H H1 → (σ' = σ ∨ ∃ x, σ' = σ.set j (some x)) → tz D σ' H1) :
    tSeq (tFor wi (gName j) (tIfS t tu tNext)) tz D σ H := by
  refine q_forS (Ex.refl H) h (fun i σ' H' => Ex H H' ∧ (∀ k, k < i → b k = false) ∧ (σ' = σ ∨ ∃ x, σ' = σ.set j (some x))) (fun H1 e => ⟨e, fun k hk => by omega, .inl rfl⟩) (fun i σ' H' p => p.1) (fun i d x σ' H' hi hx p => ?_) fun σ' H' p => hd (fun k hk => p.2.1 k (by rw [rngD_len]; exact hk)) σ' H' p.1 p.2.2
  have hin : i < n := by
    have q := (List.getElem?_eq_some_iff.mp hi).1
    rw [rngD_len] at q
    exact q
  rw [rngD_at hin] at hi
  cases hi
  cases dp_int hx
  obtain ⟨e, hb, hσ⟩ := p
  have es : σ'.set j (some (.int (lo + (i : Int)))) = σ.set j (some (.int (lo + (i : Int)))) := by
    rcases hσ with rfl | ⟨x, rfl⟩
    · rfl
    · rw [List.set_set]
  rw [es]
  refine s_if (ht i H' hin e) (fun hbi H1 e1 => hr i H1 _ hin hbi hb (e.trans e1) rfl) fun hbi H1 e1 => ?_
  exact ⟨e.trans e1, fun k hk => by
    rcases Nat.lt_succ_iff_lt_or_eq.mp hk with z | z
    · exact hb k z
    · rw [z]
      exact hbi, .inr ⟨_, rfl⟩⟩

/-! ### comprehensions: the data that f gives -/
theorem en_lc {j : Nat} {vs : List Nat} (f : PyData → Option PyData) (h : Src K wi σ H ds) (hz : ds.length ≤ 40000) (hw : ∀ x, wipe ((wipe σ vs).set j (some x)) vs = wipe σ vs)
    (ht : ∀ d v H1, Ex H H1 → d ∈ ds → Dp K H1 v d → EvT t ((wipe σ vs).set j (some v)) H1 (f d).isSome)
    (he : ∀ d r v H1, Ex H H1 → d ∈ ds → Dp K H1 v d → f d = some r → EvD K te ((wipe σ vs).set j (some v)) H1 r) (hn : ∀ d r, d ∈ ds → f d = some r → nl r = true) :
    EvN K (tLc wi (gName j) t te vs) σ H (ds.filterMap f) := fun H1 e Q q => h H1 e _ fun J H2 G e2 hg w Dl hD => by
  refine lc_it w (fun i H' => Ex H2 H' ∧ ∃ acc, H' Dl = some (.lst acc) ∧ DpAll K H' acc ((ds.take i).filterMap f)) ⟨Ex.new hD, [], upd_same, by simpa using DpAll.nil⟩ (fun i H' _ p => hg H' p.1) (fun i x H' H'' hi p hy => ?_) (fun H' p => ?_)
  · obtain ⟨rfl, d, hd, hx⟩ := hy
    obtain ⟨p1, acc, p2, p3⟩ := p
    have e3 : Ex H H'' := (e.trans e2).trans p1
    have hm : d ∈ ds := List.mem_of_getElem? hd
    have htk : ds.take (i + 1) = ds.take i ++ [d] := by rw [List.take_add_one, hd]; rfl
    refine ⟨hw x, ht d x H'' e3 hm hx H'' (Ex.refl _) _ fun H3 e4 => ?_⟩
    have hle : acc.length ≤ ds.length := by
      rw [dpAll_len p3]
      exact Nat.le_trans (List.length_filterMap_le _ _) (by rw [List.length_take]; omega)
    cases hf : f d with
    | none =>
      show Ex H2 H3 ∧ _
      refine ⟨p1.trans e4, acc, e4 _ _ p2, ?_⟩
      rw [htk, List.filterMap_append, List.filterMap_cons, hf]
      simpa using dpAll_ex e4 _ p3
    | some r =>
      show te _ H3 _
      refine he d r x H'' e3 hm hx hf H3 e4 _ fun y H4 e5 hyr => ⟨acc, e5 _ _ (e4 _ _ p2), sz_lt (by omega), Ex.mut ((p1.trans e4).trans e5) hD, _, upd_same, ?_⟩
      rw [htk, List.filterMap_append, List.filterMap_cons, hf]
      have hall : nlAll ((ds.take i).filterMap f) = true := nlAll_mem fun r' hr' => by
        obtain ⟨d', h1, h2⟩ := List.mem_filterMap.mp hr'
        exact hn d' r' (List.mem_of_mem_take h1) h2
      exact dpAll_snoc (dpAll_updL (e5 _ _ (e4 _ _ p2)) _ hall (dpAll_ex (e4.trans e5) _ p3)) (dp_updL (e5 _ _ (e4 _ _ p2)) _ (hn d r hm hf) hyr)
  · obtain ⟨p1, acc, p2, p3⟩ := p
    rw [List.take_length] at p3
    exact q Dl acc H' (fresh_back e2 hD) (e2.trans p1) p2 p3
end
end WR
set_option Elab.async false
set_option linter.all false
set_option maxRecDepth 100000
set_option maxHeartbeats 2000000
namespace WR
open PySem PySem.Spec PyProof.Rows L2 Evl

/-! ### isinstance of a caught error that has its own dict -/
def rIsEd (K : PySem.W.Frag) (D a : Addr) (cls : Value) (d : Option Addr) : List V → Hp → VK → Prop := fun xs H Q => ∃ (c : V) (cv : Value) (b : Bool) (dd : Addr) (fs : List (Str × V)), xs = [.ref a, c] ∧ cls = .ref D ∧ d = some dd ∧ H dd = some (.xd fs) ∧ (∀ u, RelV c u → u = cv) ∧ PySem.W.kitOne K (.ref D) cv = some b ∧ Q (.bl b) H
theorem call_isEd {X : Cx} {a D : Addr} {oe : Obj} {cls : Value} {d : Option Addr} {pn : List (Addr × Obj)} (C : ExcC X.K D) (hz : Zc cls d oe) (hf : ∃ vs, oe.data = .fields vs) : CallR (X.suite a ((a, oe) :: pn)) (.builtin "isinstance") (rIsEd X.K D a cls d) := by
  intro pins s σ H xs us Q I r h
  obtain ⟨c, cv, b, dd, fs, rfl, rfl, rfl, hdd, hcv, e, q⟩ := h
  cases r with
  | cons rx rr =>
    cases rr with
    | cons rt rr =>
      cases rr
      cases rx
      have ec := hcv _ rt
      subst ec
      obtain ⟨hget, _⟩ := I.pin (a, oe) (List.mem_append.mpr (.inl List.mem_cons_self))
      obtain ⟨vs, hv⟩ := hf
      have hx : ObjOk X.prog X.w H s.heap dd (.xd fs) := I.hok dd _ hdd
      obtain ⟨mA, hns, hr⟩ := hx
      obtain ⟨od, ho, hl⟩ := lookIn_ns hns
      have J : PySem.W.InstAt s.heap a oe D (some od) := ⟨hget, hz.1, by unfold PySem.W.notCls; rw [hv] <;> rfl, by rw [hz.2]; exact ho⟩
      have hcl : (PySem.W.clsIn X.K D).isSome = true := by
        obtain ⟨cd, hc, _⟩ := PySem.W.any_some C.hd
        rw [hc]
        rfl
      exact PySem.W.kia_one (PySem.W.kitx_exc hcl C.hg C.hk C.hs C.ha C.hn C.ht C.hm) I.kIn J e (fun z => nomatch z) fun tk => ⟨.bl b, H, I.kept (t' := tk) fun _ _ z => z, rfl, q⟩
end WR
set_option Elab.async false
set_option linter.all false
set_option maxRecDepth 100000
set_option maxHeartbeats 1000000
namespace WR
open PySem PySem.Spec PyProof.Rows L2 Evl
/-! ### isinstance upon data -/
def tyName : PyData → String
  | .none => "NoneType"
  | .bool _ => "bool"
  | .int _ => "int"
  | .str _ => "str"
  | .list _ => "list"
  | .tuple _ => "tuple"
  | .dict _ => "dict"
theorem tyx_of {K : PySem.W.Frag} {H : Hp} {v : V} {d : PyData} (h : Dp K H v d) : TyX K H v (.type (tyName d)) := by
  cases h with
  | non => exact .base .non
  | bl b => exact .base (.bl b)
  | int i => exact .base (.int i)
  | str x => exact .base (.str x)
  | lst a b =>
    rcases a with (a | ⟨o, a⟩) | ⟨o, its, n, a, c, _⟩
    · exact .base (.lst a)
    · exact .base (.frz a)
    · exact .kList a c
  | tup a b =>
    rcases a with (a | ⟨o, a⟩) | ⟨o, its, n, a, c, _⟩
    · exact .base (.tup a)
    · exact .fTuple a
    · exact .kTuple a c
theorem ev_isi {K : PySem.W.Frag} {σ : L2.St} {H : Hp} {te : TE} {d : PyData} {T : String} {b : Bool} (h : EvD K te σ H d) (hk : kitB (tyName d) T = some b) :
    Ev (tCB (rIsi K) (tCons te (tCons (tC (.ty T)) tNil))) σ H (.bl b) := fun H1 e Q q =>
  h H1 e _ fun v H2 e2 hv => ⟨v, .ty T, _, _, b, rfl, .ty T, tyx_of hv, kit_ty hk, q H2 e2⟩
def isTup : PyData → Bool | .tuple _ => true | _ => false
def isInt : PyData → Bool | .int _ => true | _ => false
def isIntB : PyData → Bool | .int _ => true | .bool _ => true | _ => false
def isBool : PyData → Bool | .bool _ => true | _ => false
theorem kit_tup (d : PyData) : kitB (tyName d) "tuple" = some (isTup d) := by cases d <;> (simp only [tyName, isTup]; decide +kernel)
theorem kit_int (d : PyData) : kitB (tyName d) "int" = some (isIntB d) := by cases d <;> (simp only [tyName, isIntB]; decide +kernel)
theorem kit_bool (d : PyData) : kitB (tyName d) "bool" = some (isBool d) := by cases d <;> (simp only [tyName, isBool]; decide +kernel)

theorem ev_chain {K : PySem.W.Frag} {σ : L2.St} {H : Hp} {ta tb tc : TE} {a i b : Int} {p1 p2 : Int → Int → Bool} (ha : EvD K ta σ H (.int a)) (hb : EvD K tb σ H (.int i)) (hc : EvD K tc σ H (.int b)) :
    Ev (tChain (rI0 fun i j => .bl (p1 i j)) (rI0 fun i j => .bl (p2 i j)) ta tb tc) σ H (.bl (p1 a i && p2 i b)) := fun H1 e Q q =>
  ha H1 e _ fun v H2 e2 hv => hb H2 (e.trans e2) _ fun w H3 e3 hw => by
    cases dp_int hv
    cases dp_int hw
    refine ⟨a, i, rfl, rfl, _, rfl, ?_⟩
    cases h : p1 a i with
    | false =>
      rw [h] at q
      exact q H3 (e2.trans e3)
    | true =>
      rw [h] at q
      show tc σ H3 _
      refine hc H3 ((e.trans e2).trans e3) _ fun x H4 e4 hx => ?_
      cases dp_int hx
      exact ⟨i, b, rfl, rfl, q H4 ((e2.trans e3).trans e4)⟩
theorem spD_len {K : PySem.W.Frag} {F : List PyData → Option PyData} {n : Nat} (hF : ∀ ds r, F ds = some r → ds.length = n) {vs : List V} {H : Hp} {Q : VK} {E : XK} (h : spD K F vs H Q E) : vs.length = n := by
  obtain ⟨ds, r, hd, hf, _⟩ := h
  rw [dpAll_len hd]
  exact hF ds r hf
theorem dpAll_1 {K : PySem.W.Frag} {H : Hp} {vs : List V} {d : PyData} (h : DpAll K H vs [d]) : ∃ v, vs = [v] ∧ Dp K H v d := by
  cases h with
  | cons a b => cases b; exact ⟨_, rfl, a⟩
theorem dpAll_2 {K : PySem.W.Frag} {H : Hp} {vs : List V} {d e : PyData} (h : DpAll K H vs [d, e]) : ∃ v w, vs = [v, w] ∧ Dp K H v d ∧ Dp K H w e := by
  cases h with
  | cons a b =>
    obtain ⟨w, rfl, c⟩ := dpAll_1 b
    exact ⟨_, w, rfl, a, c⟩
theorem dpAll_3 {K : PySem.W.Frag} {H : Hp} {vs : List V} {d e f : PyData} (h : DpAll K H vs [d, e, f]) : ∃ v w x, vs = [v, w, x] ∧ Dp K H v d ∧ Dp K H w e ∧ Dp K H x f := by
  cases h with
  | cons a b =>
    obtain ⟨w, x, rfl, c⟩ := dpAll_2 b
    exact ⟨_, w, x, rfl, a, c⟩
/-- functions upon data, by their number of arguments -/
def f1 (g : PyData → Option PyData) : List PyData → Option PyData | [a] => g a | _ => none
def f2 (g : PyData → PyData → Option PyData) : List PyData → Option PyData | [a, b] => g a b | _ => none
def f3 (g : PyData → PyData → PyData → Option PyData) : List PyData → Option PyData | [a, b, c] => g a b c | _ => none
theorem f1_len {g : PyData → Option PyData} : ∀ ds r, f1 g ds = some r → ds.length = 1
  | [_], _, _ => rfl
theorem f2_len {g : PyData → PyData → Option PyData} : ∀ ds r, f2 g ds = some r → ds.length = 2
  | [_, _], _, _ => rfl
theorem f3_len {g : PyData → PyData → PyData → Option PyData} : ∀ ds r, f3 g ds = some r → ds.length = 3
  | [_, _, _], _, _ => rfl
theorem sp1 {K : PySem.W.Frag} {g : PyData → Option PyData} {vs : List V} {H : Hp} {Q : VK} {E : XK} (h : spD K (f1 g) vs H Q E) :
    ∃ v d r, vs = [v] ∧ Dp K H v d ∧ g d = some r ∧ ∀ v H', Ex H H' → Dp K H' v r → Q v H' := by
  obtain ⟨ds, r, hd, hf, q⟩ := h
  match ds, hf with
  | [d], hf =>
    obtain ⟨v, rfl, hv⟩ := dpAll_1 hd
    exact ⟨v, d, r, rfl, hv, hf, q⟩
theorem sp2 {K : PySem.W.Frag} {g : PyData → PyData → Option PyData} {vs : List V} {H : Hp} {Q : VK} {E : XK} (h : spD K (f2 g) vs H Q E) :
    ∃ v w d e r, vs = [v, w] ∧ Dp K H v d ∧ Dp K H w e ∧ g d e = some r ∧ ∀ v H', Ex H H' → Dp K H' v r → Q v H' := by
  obtain ⟨ds, r, hd, hf, q⟩ := h
  match ds, hf with
  | [d, e], hf =>
    obtain ⟨v, w, rfl, hv, hw⟩ := dpAll_2 hd
    exact ⟨v, w, d, e, r, rfl, hv, hw, hf, q⟩
theorem sp3 {K : PySem.W.Frag} {g : PyData → PyData → PyData → Option PyData} {vs : List V} {H : Hp} {Q : VK} {E : XK} (h : spD K (f3 g) vs H Q E) :
    ∃ v w x d e f r, vs = [v, w, x] ∧ Dp K H v d ∧ Dp K H w e ∧ Dp K H x f ∧ g d e f = some r ∧ ∀ v H', Ex H H' → Dp K H' v r → Q v H' := by
  obtain ⟨ds, r, hd, hf, q⟩ := h
  match ds, hf with
  | [d, e, f], hf =>
    obtain ⟨v, w, x, rfl, hv, hw, hx⟩ := dpAll_3 hd
    exact ⟨v, w, x, d, e, f, r, rfl, hv, hw, hx, hf, q⟩

theorem fm_map {α β : Type} {f : α → Option β} {g : α → β} : ∀ {l : List α}, (∀ x ∈ l, f x = some (g x)) → l.filterMap f = l.map g
  | [], _ => rfl
  | x :: l, h => by
    rw [List.filterMap_cons, h x (List.mem_cons_self ..), List.map_cons]
    show g x :: _ = _
    rw [fm_map fun y hy => h y (List.mem_cons_of_mem _ hy)]
end WR
set_option Elab.async false
set_option linter.all false
namespace WR
open PySem
def topS (i : Nat) : Stmt := PySem.Challenge.pw_wayrows_k01_errors_and_bounds.main.body.getD i (.Pass ⟨0, 0, 0, 0⟩)
abbrev s_WebError : Stmt := topS 1
abbrev s_OtherLeaves : Stmt := topS 2
abbrev s_NoPaper : Stmt := topS 3
abbrev s_NoWay : Stmt := topS 4
abbrev s_TooMany : Stmt := topS 5
abbrev s_NoWeb : Stmt := topS 6
abbrev s_NoLink : Stmt := topS 7
abbrev s_BadGraft : Stmt := topS 8
abbrev s_BadWeb : Stmt := topS 9
abbrev s_BadNames : Stmt := topS 10
abbrev s_NoKind : Stmt := topS 11
abbrev s_Full : Stmt := topS 12
abbrev s_NothingDone : Stmt := topS 13
abbrev s_NothingUndone : Stmt := topS 14
abbrev s_NoVersion : Stmt := topS 15
abbrev s_NoWatch : Stmt := topS 16
abbrev s_BadText : Stmt := topS 17
abbrev s_BadName : Stmt := topS 18
abbrev sDeck : Stmt := topS 26
abbrev sDraw : Stmt := topS 27
abbrev sOne : Stmt := topS 28
abbrev s_law_any : Stmt := topS 29
abbrev s_law_classes : Stmt := topS 30
abbrev s_law_made : Stmt := topS 31
abbrev s_law_named : Stmt := topS 32
abbrev sLaw : Stmt := topS 33
end WR
set_option Elab.async false
set_option linter.all false
set_option maxRecDepth 100000
set_option maxHeartbeats 1000000
namespace WR
open PySem PySem.Spec PyProof.Rows L2 Evl
/-! ### the deck: an object that each draw changes -/
def rem (H : Hp) (p : Addr) : Hp := fun q => if q = p then none else H q
theorem rem_self {H : Hp} {p : Addr} : rem H p p = none := if_pos rfl
theorem rem_ne {H : Hp} {p q : Addr} (h : q ≠ p) : rem H p q = H q := if_neg h
theorem rem_ex {H : Hp} {p : Addr} : Ex (rem H p) H := fun a o h => by
  by_cases e : a = p
  · rw [e, rem_self] at h
    cases h
  · rwa [rem_ne e] at h
theorem rem_mono {H H' : Hp} {p : Addr} (e : Ex H H') : Ex (rem H p) (rem H' p) := fun a o h => by
  by_cases z : a = p
  · rw [z, rem_self] at h
    cases h
  · rw [rem_ne z] at h ⊢
    exact e a o h
/-- what is behind a change of p is behind a second one -/
theorem rem_trans {H H1 H2 : Hp} {p : Addr} (a : Ex (rem H p) H1) (b : Ex (rem H1 p) H2) : Ex (rem H p) H2 := fun q o h => by
  have n : q ≠ p := fun z => by
    rw [z, rem_self] at h
    cases h
  exact b q o (by rw [rem_ne n]; exact a q o h)
def DkO (L : Addr) (a b n : Int) : HO := .lst [.ref L, .int a, .int b, .int n]
structure DkAt (H : Hp) (p L : Addr) (ns : List Int) (a b n : Int) : Prop where
  at_ : H p = some (DkO L a b n)
  ls : H L = some (.lst (ns.map V.int))
  a0 : 0 ≤ a
  b0 : 0 ≤ b
  n0 : 0 ≤ n
  len : ns.length ≤ 63
def Dk (H : Hp) (p L : Addr) (ns : List Int) (N : Int) : Prop := ∃ a b n, DkAt H p L ns a b n ∧ n ≤ N
theorem DkAt.ne {H : Hp} {p L : Addr} {ns : List Int} {a b n : Int} (h : DkAt H p L ns a b n) : L ≠ p := by
  intro z
  have h1 := h.at_
  have h2 := h.ls
  rw [z, h1] at h2
  have h3 : [V.ref L, .int a, .int b, .int n] = ns.map V.int := HO.lst.inj (Option.some.inj h2)
  cases ns with
  | nil => cases h3
  | cons x r => cases h3
theorem DkAt.ex {H H' : Hp} {p L : Addr} {ns : List Int} {a b n : Int} (h : DkAt H p L ns a b n) (e : Ex H H') : DkAt H' p L ns a b n :=
  ⟨e _ _ h.at_, e _ _ h.ls, h.a0, h.b0, h.n0, h.len⟩
theorem DkAt.upd {H : Hp} {p L : Addr} {ns : List Int} {a b n a' b' n' : Int} (h : DkAt H p L ns a b n) (ha : 0 ≤ a') (hb : 0 ≤ b') (hn : 0 ≤ n') : DkAt (upd H p (DkO L a' b' n')) p L ns a' b' n' :=
  ⟨upd_same, by rw [upd_ne h.ne]; exact h.ls, ha, hb, hn, h.len⟩
theorem Dk.ex {H H' : Hp} {p L : Addr} {ns : List Int} {N : Int} (h : Dk H p L ns N) (e : Ex H H') : Dk H' p L ns N := by
  obtain ⟨a, b, n, d, hn⟩ := h
  exact ⟨a, b, n, d.ex e, hn⟩
theorem ex_upd {H B : Hp} {p : Addr} {o : HO} (e : Ex B H) (h : B p = none) : Ex B (upd H p o) := Ex.mut e h

/-- a draw below m: some number, the deck one draw on -/
def spDraw : Sp := fun vs H Q _ => ∃ p L ns m N, vs = [.ref p, .int m] ∧ Dk H p L ns N ∧ N ≤ 1000000000 ∧ 1 ≤ m ∧ m ≤ 1000000000 ∧
  ∀ r H', 0 ≤ r → r < m → Ex (rem H p) H' → Dk H' p L ns (N + 1) → Q (.int r) H'
theorem spDraw_len {vs : List V} {H : Hp} {Q : VK} {E : XK} (h : spDraw vs H Q E) : vs.length = 2 := by
  obtain ⟨p, L, ns, m, N, rfl, _⟩ := h
  rfl

abbrev nDraw : List Str := ["_law_deck_here", "_law_many", "_law_found", "_law_cell", "_law_mixed"]
theorem scDraw : FnScope nDraw ["_law_deck_here", "_law_many"] (defScope sDraw) := ⟨rfl, rfl, rfl, by decide +kernel, rfl, by decide +kernel, by decide +kernel⟩
theorem ev_int {σ : L2.St} {H : Hp} {te : TE} {i : Int} (h : Ev te σ H (.int i)) : Ev (tCB (fun xs H Q => (∃ i, xs = [.int i] ∧ Q (.int i) H) ∨ ∃ k, xs = [.bl k] ∧ Q (.int (if k then 1 else 0)) H) (tCons te tNil)) σ H (.int i) :=
  ev_cb (ea_cons h ea_nil) fun H1 _ Q q => .inl ⟨i, rfl, q H1 (Ex.refl H1)⟩
theorem ev_abs {σ : L2.St} {H : Hp} {te : TE} {i : Int} (h : Ev te σ H (.int i)) : Ev (tCB (fun xs H Q => ∃ i, xs = [.int i] ∧ Q (.int (if i < 0 then -i else i)) H) (tCons te tNil)) σ H (.int (if i < 0 then -i else i)) :=
  ev_cb (ea_cons h ea_nil) fun H1 _ Q q => ⟨i, rfl, q H1 (Ex.refl H1)⟩
theorem eqv_ints_nil : ∀ ns : List Int, PyData.eqv (.list (ns.map PyData.int)) (.list []) = ns.isEmpty
  | [] => by simp [PyData.eqv, PyData.eqvAll]
  | _ :: _ => by simp [PyData.eqv, PyData.eqvAll]
theorem lay_ints : ∀ ns : List Int, PyData.canLayAll0 (ns.map PyData.int) = true ∧ PyData.depthAll (ns.map PyData.int) = 0
  | [] => by simp [PyData.canLayAll0, PyData.depthAll]
  | n :: ns => by
    have ih := lay_ints ns
    simp only [List.map_cons, PyData.canLayAll0, PyData.canLay0, PyData.depthAll, PyData.depth, ih.1, ih.2]
    decide
theorem shaped_ints (ns : List Int) : SeqAt.shaped (.list (ns.map PyData.int)) = true := by
  have q := lay_ints ns
  show (PyData.canLay0 _ && decide (PyData.depth _ ≤ 64)) = true
  simp only [PyData.canLay0, PyData.depth, q.1, q.2]
  decide
section
variable {P : Program} {w : World} {K : PySem.W.Frag} {mg : Str → Option Value} {base : Heap}
theorem ok_draw {f : Addr} {fd : FuncData} (F : Fun K "_law_draw" "_law_draw" sDraw f fd) (m1 : mg "int" = none) (m2 : mg "abs" = none) (m3 : mg "len" = none) :
    FnOk P w K mg base CX0 1 f fd ["_law_deck_here", "_law_many"] spDraw := by
  refine F.ok scDraw (fun vs H Q E h => spDraw_len h) (fun cdv A outer s H vs Q E hr h => ?_)
  obtain ⟨p, L, ns, m, N, rfl, hdk, hN, hm1, hm2, q⟩ := h
  refine ⟨_, pss_cons (ps_asg (pe_op op_add (pe_ix ix_list (pv 0) pe_int (fun _ _ => rfl)) pe_int) (pg_sub (pv 0) pe_int set_list))
    (pss_cons (ps_if (pt_cmpR op_gt (pe_ix ix_list (pv 0) pe_int (fun _ _ => rfl)) pe_int (nomark _))
      (pss_cons (ps_set (i := 2) scDraw.nd rfl (.inl rfl) (pe_op op_mod (pe_callTy call_int1 (by rfl) m1 (by decide +kernel) (pa_cons (pe_ix ix_list (pv 0) pe_int (fun _ _ => rfl)) pa_nil)) (pv 1)))
      (pss_cons (ps_asg (pe_op op_fdiv (pe_ix ix_list (pv 0) pe_int (fun _ _ => rfl)) (pv 1)) (pg_sub (pv 0) pe_int set_list))
      (pss_one (ps_ret (pv 2))))) pss_nil)
    (pss_cons (ps_set (i := 3) scDraw.nd rfl (.inl rfl) pe_int)
    (pss_cons (ps_if (pt_cmpR (op_neD (by have := hr.units; exact this)) (pe_ix ix_list (pv 0) pe_int (fun _ _ => rfl)) (pe_lst pa_nil) (nomark _))
      (pss_one (ps_set (i := 3) scDraw.nd rfl (.inl rfl) (pe_ix ix_list (pe_ix ix_list (pv 0) pe_int (fun _ _ => rfl)) (pe_op op_mod (pe_callTy call_int1 (by rfl) m1 (by decide +kernel) (pa_cons (pe_ix ix_list (pv 0) pe_int (fun _ _ => rfl)) pa_nil)) (pe_callB call_len_seq (by rfl) m3 PySem.boot_len (pa_cons (pe_ix ix_list (pv 0) pe_int (fun _ _ => rfl)) pa_nil))) (fun _ _ => rfl)))) pss_nil)
    (pss_cons (ps_asg (pe_op op_add (pe_ix ix_list (pv 0) pe_int (fun _ _ => rfl)) pe_int) (pg_sub (pv 0) pe_int set_list))
    (pss_cons (ps_if (pw_and (pt_cmpR op_ge (pe_callB call_abs (by rfl) m2 (by decide +kernel) (pa_cons (pv 3) pa_nil)) (pe_op op_pow pe_int pe_int) (nomark _))
        (pw_and1 (pt_cmpR op_le (pe_ix ix_list (pv 0) pe_int (fun _ _ => rfl)) (pe_callB call_len_seq (by rfl) m3 PySem.boot_len (pa_cons (pe_ix ix_list (pv 0) pe_int (fun _ _ => rfl)) pa_nil)) (nomark _)))).pt
      (pss_cons (ps_asg (pe_op op_fdiv (pe_callB call_abs (by rfl) m2 (by decide +kernel) (pa_cons (pv 3) pa_nil)) (pv 1)) (pg_sub (pv 0) pe_int set_list))
      (pss_one (ps_ret (pe_op op_mod (pe_callTy call_int1 (by rfl) m1 (by decide +kernel) (pa_cons (pe_callB call_abs (by rfl) m2 (by decide +kernel) (pa_cons (pv 3) pa_nil)) pa_nil)) (pv 1))))) pss_nil)
    (pss_cons (ps_set (i := 4) scDraw.nd rfl (.inl rfl) (pe_op op_mod (pe_op op_pow (pe_callTy call_int1 (by rfl) m1 (by decide +kernel) (pa_cons (pe_op op_add (pe_op op_mod (pe_callTy call_int1 (by rfl) m1 (by decide +kernel) (pa_cons (pv 3) pa_nil)) pe_int)
        (pe_op op_mul pe_int (pe_ix ix_list (pv 0) pe_int (fun _ _ => rfl)))) pa_nil)) pe_int) pe_int))
    (pss_cons (ps_set (i := 4) scDraw.nd rfl (.inl rfl) (pe_op op_mod (pe_op op_pow (pe_callTy call_int1 (by rfl) m1 (by decide +kernel) (pa_cons (pe_op op_add (pe_op op_mul (pv 4) (pe_op op_add (pe_op op_mul pe_int (pe_ix ix_list (pv 0) pe_int (fun _ _ => rfl))) pe_int)) pe_int) pa_nil)) pe_int) pe_int))
    (pss_one (ps_ret (pe_op op_mod (pe_op op_fdiv (pv 4) pe_int) (pv 1))))))))))), ?_⟩
  obtain ⟨a, b, n, d, hnN⟩ := hdk
  have hB : rem H p p = none := rem_self
  have g0 : ∀ {σ' : L2.St} {H' : Hp} {a b n : Int}, σ'[0]? = some (some (.ref p)) → DkAt H' p L ns a b n → Ev (tOp (rIxL K) (tVar 0) (tC (.int 0))) σ' H' (.ref L) := fun hs d => ev_op (ev_var hs) ev_c (rv_ixL (sq_of d.at_) rfl)
  have g1 : ∀ {σ' : L2.St} {H' : Hp} {a b n : Int}, σ'[0]? = some (some (.ref p)) → DkAt H' p L ns a b n → Ev (tOp (rIxL K) (tVar 0) (tC (.int 1))) σ' H' (.int a) := fun hs d => ev_op (ev_var hs) ev_c (rv_ixL (sq_of d.at_) rfl)
  have g2 : ∀ {σ' : L2.St} {H' : Hp} {a b n : Int}, σ'[0]? = some (some (.ref p)) → DkAt H' p L ns a b n → Ev (tOp (rIxL K) (tVar 0) (tC (.int 2))) σ' H' (.int b) := fun hs d => ev_op (ev_var hs) ev_c (rv_ixL (sq_of d.at_) rfl)
  have g3 : ∀ {σ' : L2.St} {H' : Hp} {a b n : Int}, σ'[0]? = some (some (.ref p)) → DkAt H' p L ns a b n → Ev (tOp (rIxL K) (tVar 0) (tC (.int 3))) σ' H' (.int n) := fun hs d => ev_op (ev_var hs) ev_c (rv_ixL (sq_of d.at_) rfl)
  have gl : ∀ {σ' : L2.St} {H' : Hp} {a b n : Int}, σ'[0]? = some (some (.ref p)) → DkAt H' p L ns a b n → Ev (tCB (fun xs H Q => ∃ p ys, xs = [.ref p] ∧ (SqL K H p ys ∨ SqT K H p ys) ∧ Q (.int ys.length) H) (tCons (tOp (rIxL K) (tVar 0) (tC (.int 0))) tNil)) σ' H' (.int (ns.length : Int)) := fun hs d =>
    ev_is (ev_len (K := K) (g0 hs d) (sq_of d.ls)) (by rw [List.length_map])
  have hm : (0 : Int) < m := by omega
  have cdiv : ∀ i, CDiv i m := fun i => ⟨hm, by omega⟩
  have n0 := d.n0
  -- the draw is counted
  refine q_setL (j := 3) (v := .int (n + 1)) d.at_ (ev_op (g3 rfl d) ev_c rv_I0) (ev_var rfl) ev_c (show 3 < 4 by decide) fun H1 e1 => ?_
  have d1 : DkAt (upd H1 p (DkO L a b (n + 1))) p L ns a b (n + 1) := (d.ex e1).upd d.a0 d.b0 (by omega)
  have x1 : Ex (rem H p) (upd H1 p (DkO L a b (n + 1))) := ex_upd (rem_ex.trans e1) hB
  show tSeq _ _ _ _ (upd H1 p (DkO L a b (n + 1)))
  generalize upd H1 p (DkO L a b (n + 1)) = H1 at d1 x1 ⊢
  -- what is left of a great one
  refine q_when (b := decide (0 < b)) (et_test (ev_op (g2 rfl d1) ev_c rv_I0)) (fun _ H2 e2 => ?_) fun _ H2 e2 => ?_
  · have d2 := d1.ex e2
    refine q_asg (v := .int (b % m)) (ev_op (ev_int (g2 rfl d2)) (ev_var rfl) (rv_I hm)) fun H3 e3 => ?_
    have d3 := d2.ex e3
    refine q_setL (j := 2) (v := .int (b / m)) d3.at_ (ev_op (g2 rfl d3) (ev_var rfl) (rv_I (cdiv b))) (ev_var rfl) ev_c (show 2 < 4 by decide) fun H4 e4 => ?_
    have d4 : DkAt (upd H4 p (DkO L a (b / m) (n + 1))) p L ns a (b / m) (n + 1) := (d3.ex e4).upd d.a0 (Int.ediv_nonneg d.b0 (by omega)) (by omega)
    refine s_ret (v := .int (b % m)) (ev_var rfl) fun H5 e5 => ?_
    refine q _ H5 (Int.emod_nonneg _ (by omega)) (Int.emod_lt_of_pos _ hm) ((ex_upd (((x1.trans e2).trans e3).trans e4) hB).trans e5) ?_
    exact ⟨_, _, _, d4.ex e5, by omega⟩
  have d2 := d1.ex e2
  have x2 := x1.trans e2
  refine q_asg (v := .int 61) ev_c fun H3 e3 => ?_
  have d3 := d2.ex e3
  have x3 := x2.trans e3
  have hlen : ∀ H', DkAt H' p L ns a b (n + 1) → SqL K H' L (ns.map V.int) := fun H' d => sq_of d.ls
  refine q_ifAsg (b := !ns.isEmpty) (v := .int (if ns.isEmpty then 61 else ns.getD (a % (ns.length : Int)).toNat 0)) ?_ (fun hb => ?_) (fun hb => ?_) fun H4 e4 => ?_
  · refine et_test (ev_opL (x := .ref L) (xs := []) (g0 rfl d3) (el_lst ea_nil (by simp)) fun q' H5 h5 e5 => ?_)
    intro H6 e6 Q' q6
    refine ⟨.list (ns.map PyData.int), .list [], .lst (sq_of ((d3.ex (e5.trans e6)).ls)) (dpAll_ints ns), .lst (sq_of (e6 _ _ h5)) .nil, shaped_ints ns, shaped_ints [], ?_⟩
    rw [eqv_ints_nil]
    exact q6 H6 (Ex.refl H6)
  · have hne : ns ≠ [] := by
      intro z
      rw [z] at hb
      cases hb
    have hpos : 0 < ns.length := by
      cases ns with
      | nil => exact absurd rfl hne
      | cons _ _ => simp
    have hie : ns.isEmpty = false := by simpa using hne
    have hr0 : 0 ≤ a % (ns.length : Int) := Int.emod_nonneg _ (by omega)
    have hr1 : a % (ns.length : Int) < (ns.length : Int) := Int.emod_lt_of_pos _ (by omega)
    rw [hie]
    refine ev_op (x := .ref L) (y := .int (a % (ns.length : Int))) (g0 rfl d3) (ev_op (ev_int (g1 rfl d3)) (gl rfl d3) (rv_I (by omega))) (rv_ixL (K := K) (sq_of d3.ls) ?_)
    obtain ⟨k, hk⟩ : ∃ k : Nat, a % (ns.length : Int) = (k : Int) := ⟨_, (Int.toNat_of_nonneg hr0).symm⟩
    rw [hk]
    refine atI_nat ?_
    have hkl : k < ns.length := by omega
    rw [Int.toNat_natCast, List.getElem?_map, List.getD_eq_getElem?_getD, List.getElem?_eq_getElem hkl]
    rfl
  · have hie : ns.isEmpty = true := by simpa using hb
    rw [hie]
    rfl
  generalize (if ns.isEmpty = true then (61 : Int) else ns.getD (a % (ns.length : Int)).toNat 0) = cell
  have d4 := d3.ex e4
  have x4 := x3.trans e4
  refine q_setL (j := 1) (v := .int (a + 1)) d4.at_ (ev_op (g1 rfl d4) ev_c rv_I0) (ev_var rfl) ev_c (show 1 < 4 by decide) fun H5 e5 => ?_
  have a0 := d.a0
  have d5 : DkAt (upd H5 p (DkO L (a + 1) b (n + 1))) p L ns (a + 1) b (n + 1) := (d4.ex e5).upd (by omega) d.b0 (by omega)
  have x5 : Ex (rem H p) (upd H5 p (DkO L (a + 1) b (n + 1))) := ex_upd (x4.trans e5) hB
  show tSeq _ _ _ _ (upd H5 p (DkO L (a + 1) b (n + 1)))
  generalize upd H5 p (DkO L (a + 1) b (n + 1)) = H5 at d5 x5 ⊢
  refine q_when (b := decide ((10 : Int) ^ (18 : Int).toNat ≤ (if cell < 0 then -cell else cell)) && decide (a + 1 ≤ (ns.length : Int))) ?_ (fun _ H6 e6 => ?_) fun _ H6 e6 => ?_
  · refine et_and (et_test (ev_op (ev_abs (ev_var rfl)) (ev_op ev_c ev_c (rv_I ⟨by decide, by decide, by decide⟩)) rv_I0)) fun _ => et_test (ev_op (g1 rfl d5) (gl rfl d5) rv_I0)
  · have d6 := d5.ex e6
    have hab : 0 ≤ (if cell < 0 then -cell else cell) := by split <;> omega
    refine q_setL (j := 2) (v := .int ((if cell < 0 then -cell else cell) / m)) d6.at_ (ev_op (ev_abs (ev_var rfl)) (ev_var rfl) (rv_I (cdiv _))) (ev_var rfl) ev_c (show 2 < 4 by decide) fun H7 e7 => ?_
    have d7 : DkAt (upd H7 p (DkO L (a + 1) ((if cell < 0 then -cell else cell) / m) (n + 1))) p L ns (a + 1) ((if cell < 0 then -cell else cell) / m) (n + 1) := (d6.ex e7).upd (by omega) (Int.ediv_nonneg hab (by omega)) (by omega)
    refine s_ret (v := .int ((if cell < 0 then -cell else cell) % m)) (ev_op (ev_int (ev_abs (ev_var rfl))) (ev_var rfl) (rv_I hm)) fun H8 e8 => ?_
    refine q _ H8 (Int.emod_nonneg _ (by omega)) (Int.emod_lt_of_pos _ hm) ((ex_upd ((x5.trans e6).trans e7) hB).trans e8) ?_
    exact ⟨_, _, _, d7.ex e8, by omega⟩
  have d6 := d5.ex e6
  have x6 := x5.trans e6
  have c1 : 0 ≤ cell % 2147483587 := Int.emod_nonneg _ (by decide)
  have c2 : cell % 2147483587 < 2147483587 := Int.emod_lt_of_pos _ (by decide)
  refine q_asg (v := .int ((cell % 2147483587 + 67867979 * (n + 1)) ^ (5 : Int).toNat % 2147483647)) (ev_op (ev_op (ev_int (ev_op (ev_op (ev_int (ev_var rfl)) ev_c (rv_I (by decide))) (ev_op ev_c (g3 rfl d6) (rv_I (.inl ⟨by decide, by decide⟩))) rv_I0)) ev_c (rv_I ⟨by decide, by decide, by omega⟩)) ev_c (rv_I (by decide))) fun H7 e7 => ?_
  have m1 : 0 ≤ (cell % 2147483587 + 67867979 * (n + 1)) ^ (5 : Int).toNat % 2147483647 := Int.emod_nonneg _ (by decide)
  have m2 : (cell % 2147483587 + 67867979 * (n + 1)) ^ (5 : Int).toNat % 2147483647 < 2147483647 := Int.emod_lt_of_pos _ (by decide)
  generalize (cell % 2147483587 + 67867979 * (n + 1)) ^ (5 : Int).toNat % 2147483647 = mixed at m1 m2 ⊢
  have d7 := d6.ex e7
  have x7 := x6.trans e7
  have hmul : mixed * (2 * (n + 1) + 9) < 2147483647 * (2 * (n + 1) + 9) := Int.mul_lt_mul_of_pos_right m2 (by omega)
  have hmul0 : 0 ≤ mixed * (2 * (n + 1) + 9) := Int.mul_nonneg m1 (by omega)
  refine q_asg (v := .int ((mixed * (2 * (n + 1) + 9) + 7019) ^ (3 : Int).toNat % 2147483579)) (ev_op (ev_op (ev_int (ev_op (ev_op (ev_var rfl) (ev_op (ev_op ev_c (g3 rfl d7) (rv_I (.inl ⟨by decide, by decide⟩))) ev_c rv_I0) (rv_I (.inl ⟨by omega, by omega⟩))) ev_c rv_I0)) ev_c (rv_I ⟨by decide, by decide, by omega⟩)) ev_c (rv_I (by decide))) fun H8 e8 => ?_
  generalize (mixed * (2 * (n + 1) + 9) + 7019) ^ (3 : Int).toNat % 2147483579 = mixed2
  refine s_ret (v := .int (mixed2 / 16 % m)) (ev_op (ev_op (ev_var rfl) ev_c (rv_I ⟨by decide, by decide⟩)) (ev_var rfl) (rv_I hm)) fun H9 e9 => ?_
  refine q _ H9 (Int.emod_nonneg _ (by omega)) (Int.emod_lt_of_pos _ hm) ((x7.trans e8).trans e9) ?_
  exact ⟨_, _, _, (d7.ex e8).ex e9, by omega⟩
end
end WR
set_option Elab.async false
set_option linter.all false
set_option maxRecDepth 100000
set_option maxHeartbeats 1000000
namespace WR
open PySem PySem.Spec PyProof.Rows L2 Evl
section
variable {prog : Program} {w : World} {A : Around} {E : Value → Shared → Prop} {s : Shared}
theorem collect_tup {l : Addr} {vs : List Value} {Q : List Value → Shared → Prop} (hT : s.heap.IsTuple l vs.toArray) (hz : vs.length ≤ sizeLine)
    (k : Q vs { s with heap := (s.heap.push (seqObj "list" #[] 0)).update s.heap.objs.size (Obj.mapSeq (· ++ vs.toArray)) }) :
    wpAny (model prog w) A (collect (.ref l)) Q E s := by
  obtain ⟨ob, hob, hcl, n, hdat⟩ := id hT
  unfold collect
  refine wpAny_bind (wpAny_runValue ?_)
  refine codeAny_builtin entry_proto_collect' ?_
  show wpAny _ _ (do
    again (.builtin "list.__iadd__" ⟨[← newList [], .ref l], []⟩)) _ _ s
  refine wpAny_bind (wpAny_newList ?_)
  refine wpAny_pure ⟨Code.quiet_builtin _ (by decide +kernel), ?_⟩
  refine codeAny_builtin entry_list_iadd' ?_
  show wpAny _ _ (Builtin.List.listExtendWith
    (.ref s.heap.objs.size) (.ref l) (.ref s.heap.objs.size)) _ _ { s with heap := s.heap.push (seqObj "list" #[] 0) }
  unfold Builtin.List.listExtendWith
  have hob' : (s.heap.push (seqObj "list" #[] 0)).get? l = some ob :=
    Heap.get?_push_of_some _ hob
  have new := Heap.get?_push_size s.heap (o := seqObj "list" #[] 0) rfl
  refine wpAny_bind (wpAny_typeOf (T := "tuple") ⟨ob, hob', hcl⟩ ?_)
  rw [if_pos (by
    rw [show (Value.type "tuple" == Value.type "tuple") = true from rfl]
    simp)]
  refine wpAny_bind (listItems_at hob' hdat ?_)
  refine wpAny_bind (listItems_at new rfl ?_)
  rw [if_neg (by simp)]
  refine wpAny_bind (listUpdate_at new rfl ?_ (Nat.zero_le _) ?_)
  · refine wpAny_pure ?_
    show wpAny (model prog w) A (do
        let o ← load s.heap.objs.size
        match o.data with
        | .seq ys _ => pure ys.toList
        | _ => unsupported "internal:collect") Q E { s with heap := (s.heap.push (seqObj "list" #[] 0)).update s.heap.objs.size (Obj.mapSeq (· ++ vs.toArray)) }
    refine wpAny_bind (wpAny_load (get?_update_seq new _) ?_)
    have e : ((#[] : Array Value) ++ vs.toArray).toList = vs := by simp
    show wpAny _ _ (pure ((#[] : Array Value) ++ vs.toArray).toList) Q E _
    rw [e]
    exact wpAny_pure k
  · show (#[] ++ vs.toArray).size ≤ sizeLine + 1
    simp only [Array.size_append, List.size_toArray, List.length_nil]
    omega
theorem sorted_tupI {l : Addr} {vs : List Value} {ns : List Int} {Q : Value → Shared → Prop} (hT : s.heap.IsTuple l vs.toArray) (hi : IntsAre vs ns) (h64 : vs.length < 64)
    (k : ∀ (out : Array Value) (ns' : List Int), IntsAre out.toList ns' → ns'.Perm ns → ns'.Pairwise (· ≤ ·) →
      Q (.ref (s.heap.objs.size + 1)) { s with heap := sortedAll s.heap vs out }) :
    wpAny (model prog w) A (call (.builtin "sorted") [.ref l]) Q E s := by
  refine Calls.call_function_entry kind_sorted plain_sorted
    entry_sorted (args_sorted1 _) ?_
  unfold Builtin.«sorted»
  refine wpAny_bind (m := checkCount "sorted" 1 1 _) ?_
  refine wpAny_pure (wpAny_bind (collect_tup hT (small64 h64) ?_))
  refine wpAny_bind (wpAny_newList ?_)
  let h1 : Heap := (s.heap.push (seqObj "list" #[] 0)).update s.heap.objs.size (Obj.mapSeq (· ++ vs.toArray))
  have sz : h1.objs.size = s.heap.objs.size + 1 := by
    show ((s.heap.push (seqObj "list" #[] 0)).update s.heap.objs.size _).objs.size = _
    rw [Heap.size_update, size_push']
  have at2 : (h1.push (seqObj "list" vs.toArray 0)).get? (s.heap.objs.size + 1) = some (seqObj "list" vs.toArray 0) := by
    rw [← sz]
    exact Heap.get?_push_size _ rfl
  show wpAny _ _ _ _ _ { s with heap := h1.push (seqObj "list" vs.toArray 0) }
  rw [show (s.heap.push (seqObj "list" #[] 0)).update s.heap.objs.size (Obj.mapSeq (· ++ vs.toArray)) = h1 from rfl, sz]
  refine wpAny_bind (wpAny_holding ?_)
  refine wpAny_call_entry slot_list_sort ⟨_, at2, rfl⟩ entry_list_sort ?_ (args_list_sort _)
  refine list_sort_tree at2 hi h64 fun out ns' a1 a2 a3 => ⟨_, rfl, ?_⟩
  exact wpAny_pure ⟨_, rfl, k out ns' a1 a2 a3⟩
end
section
variable {X : Cx}
/-- sorted of a list or a tuple of ints -/
def rSortedA (K : PySem.W.Frag) : List V → Hp → VK → Prop := fun vs H Q =>
  ∃ (a : Addr) (ns : List Int), vs = [V.ref a] ∧ (SqL K H a (ns.map V.int) ∨ SqT K H a (ns.map V.int)) ∧ ns.length < 64 ∧
    ∀ (ns' : List Int) (p : Addr), ns'.Perm ns → ns'.Pairwise (· ≤ ·) → H p = none → Q (.ref p) (upd H p (.lst (ns'.map V.int)))
theorem cr_sortedA : CallR X (.builtin "sorted") (rSortedA X.K) := by
  intro pins s σ H vs us Q I r h
  obtain ⟨a, ns, rfl, hs, h64, q⟩ := h
  rcases hs with hs | hs
  · exact cr_sorted pins s σ H _ us Q I r ⟨a, ns, rfl, hs, h64, q⟩
  · obtain ⟨its, rv, hl, _⟩ := I.tuple hs
    rw [Vals.ref1 r]
    have hi := rv.ints
    refine sorted_tupI (show s.heap.IsTuple a its.toArray from hl) hi (by rw [hi.length]; exact h64) fun out ns' h1 h2 h3 => ?_
    obtain ⟨ep, e⟩ := sortedAll_at s.heap its out
    have hlen : (ns'.map V.int).length ≤ sizeLine := by
      rw [List.length_map, h2.length_eq]
      exact small64 h64
    refine ⟨.ref _, upd H (s.heap.objs.size + 1) (.lst (ns'.map V.int)), ?_, rfl, q ns' _ h2 h3 (I.hok.fresh (Nat.le_succ _))⟩
    exact I.laid (t' := s.toks) (fun _ _ => sortedAll_old) (Nat.le_succ _) ⟨hlen, out.toList, ep, vals_of_ints h1, e⟩
end
/-- the sorted one is one -/
def insI (x : Int) : List Int → List Int
  | [] => [x]
  | y :: r => if x ≤ y then x :: y :: r else y :: insI x r
def sortI : List Int → List Int
  | [] => []
  | x :: r => insI x (sortI r)
theorem insI_perm (x : Int) : ∀ l, (insI x l).Perm (x :: l)
  | [] => List.Perm.refl _
  | y :: r => by
    unfold insI
    split
    · exact List.Perm.refl _
    · exact ((insI_perm x r).cons y).trans (List.Perm.swap x y r)
theorem sortI_perm : ∀ l, (sortI l).Perm l
  | [] => List.Perm.refl _
  | x :: r => (insI_perm x _).trans ((sortI_perm r).cons x)
theorem insI_sorted (x : Int) : ∀ l : List Int, l.Pairwise (· ≤ ·) → (insI x l).Pairwise (· ≤ ·)
  | [], _ => List.pairwise_singleton _ _
  | y :: r, h => by
    rw [List.pairwise_cons] at h
    unfold insI
    split
    · next hxy =>
      rw [List.pairwise_cons, List.pairwise_cons]
      refine ⟨fun z hz => ?_, h⟩
      rcases List.mem_cons.mp hz with rfl | hz
      · exact hxy
      · exact Int.le_trans hxy (h.1 z hz)
    · next hxy =>
      rw [List.pairwise_cons]
      refine ⟨fun z hz => ?_, insI_sorted x r h.2⟩
      rcases List.mem_cons.mp ((insI_perm x r).mem_iff.mp hz) with rfl | hz
      · omega
      · exact h.1 z hz
theorem sortI_sorted : ∀ l, (sortI l).Pairwise (· ≤ ·)
  | [] => .nil
  | x :: r => insI_sorted x _ (sortI_sorted r)
theorem sorted_one : ∀ {a b : List Int}, a.Perm b → a.Pairwise (· ≤ ·) → b.Pairwise (· ≤ ·) → a = b
  | [], b, h, _, _ => by rw [List.nil_perm.mp h]
  | x :: a, [], h, _, _ => by cases List.perm_nil.mp h
  | x :: a, y :: b, h, ha, hb => by
    rw [List.pairwise_cons] at ha hb
    have h1 : x ≤ y := by
      rcases List.mem_cons.mp (h.mem_iff.mpr (List.mem_cons_self ..)) with z | z
      · omega
      · exact ha.1 y z
    have h2 : y ≤ x := by
      rcases List.mem_cons.mp (h.mem_iff.mp (List.mem_cons_self ..)) with z | z
      · omega
      · exact hb.1 x z
    have e : x = y := by omega
    subst e
    rw [sorted_one (List.Perm.cons_inv h) ha.2 hb.2]
section
variable {K : PySem.W.Frag} {σ : L2.St} {H : Hp} {te : TE} {ns : List Int}
/-- sorted(te): a new list -/
theorem en_sortedT (h : EvD K te σ H (.tuple (ns.map PyData.int))) (h64 : ns.length < 64) : EvN K (tCB (rSortedA K) (tCons te tNil)) σ H ((sortI ns).map PyData.int) := fun H1 e Q q =>
  h H1 e _ fun v H2 e2 hv => by
    obtain ⟨a, xs, rfl, hs, hd⟩ := dp_tup hv
    rw [ints_of hd] at hs
    refine ⟨a, ns, rfl, .inr hs, h64, fun ns' p hp hq hn => ?_⟩
    rw [sorted_one (hp.trans (sortI_perm ns).symm) hq (sortI_sorted ns)]
    exact q p _ _ (fresh_back e2 hn) (e2.trans (Ex.new hn)) upd_same (dpAll_ints _)
theorem en_sortedL (h : EvD K te σ H (.list (ns.map PyData.int))) (h64 : ns.length < 64) : EvN K (tCB (rSortedA K) (tCons te tNil)) σ H ((sortI ns).map PyData.int) := fun H1 e Q q =>
  h H1 e _ fun v H2 e2 hv => by
    obtain ⟨a, xs, rfl, hs, hd⟩ := dp_lst hv
    rw [ints_of hd] at hs
    refine ⟨a, ns, rfl, .inl hs, h64, fun ns' p hp hq hn => ?_⟩
    rw [sorted_one (hp.trans (sortI_perm ns).symm) hq (sortI_sorted ns)]
    exact q p _ _ (fresh_back e2 hn) (e2.trans (Ex.new hn)) upd_same (dpAll_ints _)
/-- tuple(a new list) -/
theorem ed_tupN {ds : List PyData} (h : EvN K te σ H ds) : EvD K (tCB (fun xs H Q => ∃ p ys, xs = [.ref p] ∧ ((SqL K H p ys ∧ ∀ l, H l = none → Q (.ref l) (upd H l (.tup ys))) ∨ (SqT K H p ys ∧ Q (.ref p) H))) (tCons te tNil)) σ H (.tuple ds) := ed_tupL (ed_n h)
end
section
variable {X : Cx}
/-- repr of any datum -/
def rReprA (K : PySem.W.Frag) : List V → Hp → VK → Prop := fun xs H Q =>
  ∃ (x : V) (d : PyData), xs = [x] ∧ Dp K H x d ∧ d.showable = true ∧ d.hasDict = false ∧ d.shown.length ≤ sizeLine ∧ d.depth ≤ 40 ∧ Q (.str d.shown) H
theorem call_reprA (hg : X.A.guards = some []) (hu : X.A.units + 64 < cLine) : CallR X (.builtin "repr") (rReprA X.K) := by
  intro pins s σ H xs us Q I r h
  obtain ⟨x, d, rfl, hd, hs, hn, hz, hdp, q⟩ := h
  have hd' := hd
  cases hd' with
  | lst a b => exact call_reprD hg hu pins s σ H _ us Q I r ⟨_, _, rfl, hd, hs, hn, hz, hdp, q⟩
  | tup a b => exact call_reprD hg hu pins s σ H _ us Q I r ⟨_, _, rfl, hd, hs, hn, hz, hdp, q⟩
  | non =>
    obtain ⟨u, rfl, ru⟩ := vals1 r
    cases ru
    exact PySem.P.repr_of_none ⟨.str _, H, I.tok _, ⟨_, rfl⟩, q⟩
  | bl b =>
    obtain ⟨u, rfl, ru⟩ := vals1 r
    cases ru
    exact PySem.P.repr_of_bool ⟨.str _, H, I.tok _, ⟨_, rfl⟩, q⟩
  | int i =>
    obtain ⟨u, rfl, t, rfl⟩ := vals1 r
    exact PySem.P.repr_of_int (of_decide_eq_true hs) ⟨.str _, H, I.tok _, ⟨_, rfl⟩, q⟩
  | str y =>
    obtain ⟨u, rfl, t, rfl⟩ := vals1 r
    exact PySem.P.repr_of_str ⟨.str _, H, I.tok _, ⟨_, rfl⟩, q⟩ hz
end
end WR
set_option Elab.async false
set_option linter.all false
set_option maxRecDepth 100000
set_option maxHeartbeats 1000000
namespace WR
open PySem PySem.Spec PyProof.Rows L2 Evl
/-! ### a list of data that grows -/
def LD (K : PySem.W.Frag) (H : Hp) (p : Addr) (ds : List PyData) : Prop := ∃ xs, H p = some (.lst xs) ∧ DpAll K H xs ds
theorem LD.ex {K : PySem.W.Frag} {H H' : Hp} {p : Addr} {ds : List PyData} (h : LD K H p ds) (e : Ex H H') : LD K H' p ds := by
  obtain ⟨xs, h1, h2⟩ := h
  exact ⟨xs, e _ _ h1, dpAll_ex e ds h2⟩
theorem LD.dp {K : PySem.W.Frag} {H : Hp} {p : Addr} {ds : List PyData} (h : LD K H p ds) : Dp K H (.ref p) (.list ds) := by
  obtain ⟨xs, h1, h2⟩ := h
  exact .lst (sq_of h1) h2
section
variable {K : PySem.W.Frag} {σ : L2.St} {H H' : Hp} {ta tb te tx : TE} {t : TT} {D : Ends} {tz : TS} {d : PyData} {ds es : List PyData} {l : Addr}
/-- xs.append(a datum) -/
theorem q_appD (hl : LD K H l ds) (ha : Ev ta σ H (.ref l)) (h : EvD K te σ H d) (hz : ds.length < 100000) (hn : nlAll ds = true) (hd : nl d = true)
    (k : ∀ H1, (∀ B : Hp, Ex B H → B l = none → Ex B H1) → LD K H1 l (ds ++ [d]) → tz D σ H1) :
    tSeq (tDrop (tBM K "list" rAppend ta (tCons te tNil))) tz D σ H := ha H (Ex.refl H) _ fun H1 e1 => by
  obtain ⟨xs, h1, h2⟩ := hl
  refine ⟨.inl ⟨rfl, xs, sq_of (e1 l _ h1)⟩, h H1 e1 _ fun v H2 e2 hv => ?_⟩
  have h3 := e2 l _ (e1 l _ h1)
  refine ⟨l, xs, v, rfl, rfl, h3, sz_lt (by rw [dpAll_len h2]; exact hz), k _ (fun B eb hb => Ex.mut ((eb.trans e1).trans e2) hb) ⟨_, upd_same, ?_⟩⟩
  exact dpAll_snoc (dpAll_updL h3 _ hn (dpAll_ex (e1.trans e2) _ h2)) (dp_updL h3 _ hd hv)
theorem s_appD (hl : LD K H l ds) (ha : Ev ta σ H (.ref l)) (h : EvD K te σ H d) (hz : ds.length < 100000) (hn : nlAll ds = true) (hd : nl d = true)
    (k : ∀ H1, (∀ B : Hp, Ex B H → B l = none → Ex B H1) → LD K H1 l (ds ++ [d]) → D.nx σ H1) :
    tDrop (tBM K "list" rAppend ta (tCons te tNil)) D σ H := ha H (Ex.refl H) _ fun H1 e1 => by
  obtain ⟨xs, h1, h2⟩ := hl
  refine ⟨.inl ⟨rfl, xs, sq_of (e1 l _ h1)⟩, h H1 e1 _ fun v H2 e2 hv => ?_⟩
  have h3 := e2 l _ (e1 l _ h1)
  refine ⟨l, xs, v, rfl, rfl, h3, sz_lt (by rw [dpAll_len h2]; exact hz), k _ (fun B eb hb => Ex.mut ((eb.trans e1).trans e2) hb) ⟨_, upd_same, ?_⟩⟩
  exact dpAll_snoc (dpAll_updL h3 _ hn (dpAll_ex (e1.trans e2) _ h2)) (dp_updL h3 _ hd hv)
theorem q_asgLD {i : Nat} (h : EvN K te σ H ds) (k : ∀ p H1, H p = none → Ex H H1 → LD K H1 p ds → tz D (σ.set i (some (.ref p))) H1) : tSeq (tAsg te (gName i)) tz D σ H :=
  q_asgN h fun p xs H1 hp e h1 hd => k p H1 hp e ⟨xs, h1, hd⟩
theorem en_if {b : Bool} (h : EvT t σ H b) (h1 : b = true → EvN K ta σ H ds) (h2 : b = false → EvN K tb σ H ds) : EvN K (tIf t ta tb) σ H ds := fun H1 e Q q => h H1 e _ fun H2 e2 => by
  cases b with
  | true =>
    show ta σ H2 Q
    exact h1 rfl H2 (e.trans e2) Q fun p xs H3 hp e3 h3 hd => q p xs H3 (fresh_back e2 hp) (e2.trans e3) h3 hd
  | false =>
    show tb σ H2 Q
    exact h2 rfl H2 (e.trans e2) Q fun p xs H3 hp e3 h3 hd => q p xs H3 (fresh_back e2 hp) (e2.trans e3) h3 hd
theorem ed_if {b : Bool} (h : EvT t σ H b) (h1 : b = true → EvD K ta σ H d) (h2 : b = false → EvD K tb σ H d) : EvD K (tIf t ta tb) σ H d := fun H1 e Q q => h H1 e _ fun H2 e2 => by
  cases b with
  | true =>
    show ta σ H2 Q
    exact h1 rfl H2 (e.trans e2) Q fun v H3 e3 hd => q v H3 (e2.trans e3) hd
  | false =>
    show tb σ H2 Q
    exact h2 rfl H2 (e.trans e2) Q fun v H3 e3 hd => q v H3 (e2.trans e3) hd
end
def tupI (ns : List Int) : PyData := .tuple (ns.map PyData.int)
def intI : PyData → Int
  | .int i => i
  | _ => 0
def sortT : PyData → PyData
  | .tuple ds => tupI (sortI (ds.map intI))
  | _ => .none
theorem map_intI : ∀ ns : List Int, (ns.map PyData.int).map intI = ns
  | [] => rfl
  | n :: ns => by rw [List.map_cons, List.map_cons, map_intI ns]; rfl
theorem sortT_tupI (ns : List Int) : sortT (tupI ns) = tupI (sortI ns) := by
  show tupI (sortI ((ns.map PyData.int).map intI)) = _
  rw [map_intI]
theorem nl_tupI (ns : List Int) : nl (tupI ns) = true := nlAll_mem fun d hd => by
  obtain ⟨n, _, rfl⟩ := List.mem_map.mp hd
  rfl
theorem nl_tupIs : ∀ l : List (List Int), nlAll (l.map tupI) = true
  | [] => rfl
  | x :: l => by
    show (nl (tupI x) && nlAll (l.map tupI)) = true
    rw [nl_tupI, nl_tupIs l]
    rfl
end WR
set_option Elab.async false
set_option linter.all false
set_option maxRecDepth 100000
set_option maxHeartbeats 1000000
namespace WR
open PySem PySem.Spec PyProof.Rows L2 Evl
/-! ### what stays while a list changes -/
theorem rem_tL {K : PySem.W.Frag} {H : Hp} {a l : Addr} {xs ys : List V} (hl : H l = some (.lst ys)) (h : SqT K H a xs) : SqT K (rem H l) a xs := by
  rcases h with (h | ⟨o, h⟩) | h
  · exact .inl (.inl (by rw [rem_ne (ne_of h hl (by intro z; cases z))]; exact h))
  · exact .inl (.inr ⟨o, by rw [rem_ne (ne_of h hl (by intro z; cases z))]; exact h⟩)
  · exact .inr h
mutual
theorem dp_rem {K : PySem.W.Frag} {H : Hp} {l : Addr} {ys : List V} (hl : H l = some (.lst ys)) : ∀ {v : V} (d : PyData), nl d = true → Dp K H v d → Dp K (rem H l) v d
  | _, .none, _, h => by cases h; exact .non
  | _, .bool _, _, h => by cases h; exact .bl _
  | _, .int _, _, h => by cases h; exact .int _
  | _, .str _, _, h => by cases h; exact .str _
  | _, .list ds, n, h => by cases n
  | _, .tuple ds, n, h => by
    cases h with
    | tup a b => exact .tup (rem_tL hl a) (dpAll_rem hl ds n b)
  | _, .dict _, _, h => by cases h
theorem dpAll_rem {K : PySem.W.Frag} {H : Hp} {l : Addr} {ys : List V} (hl : H l = some (.lst ys)) : ∀ {vs : List V} (ds : List PyData), nlAll ds = true → DpAll K H vs ds → DpAll K (rem H l) vs ds
  | _, [], _, h => by cases h; exact .nil
  | _, d :: ds, n, h => by
    have n' : (nl d && nlAll ds) = true := n
    rw [Bool.and_eq_true] at n'
    cases h with
    | cons a b => exact .cons (dp_rem hl d n'.1 a) (dpAll_rem hl ds n'.2 b)
end
/-- H1 is H grown, the list at l changed -/
def But (l : Addr) (H H1 : Hp) : Prop := ∀ B : Hp, Ex B H → B l = none → Ex B H1
theorem But.dp {K : PySem.W.Frag} {H H1 : Hp} {l : Addr} {ys : List V} {v : V} {d : PyData} (b : But l H H1) (hl : H l = some (.lst ys)) (h : Dp K H v d) (n : nl d = true) : Dp K H1 v d :=
  dp_ex (b _ rem_ex rem_self) d (dp_rem hl d n h)
theorem But.ld {K : PySem.W.Frag} {H H1 : Hp} {l p : Addr} {ys : List V} {ds : List PyData} (b : But l H H1) (hl : H l = some (.lst ys)) (h : LD K H p ds) (hne : p ≠ l) (n : nlAll ds = true) : LD K H1 p ds := by
  obtain ⟨xs, h1, h2⟩ := h
  have e := b _ rem_ex rem_self
  exact ⟨xs, e _ _ (by rw [rem_ne hne]; exact h1), dpAll_ex e _ (dpAll_rem hl _ n h2)⟩

/-! ### repr -/
def okR (d : PyData) : Bool := d.showable && !d.hasDict && decide (d.shown.length ≤ sizeLine) && decide (d.depth ≤ 40)
section
variable {K : PySem.W.Frag} {σ : L2.St} {H H' : Hp} {ta tb te tx : TE} {d e : PyData} {ds es : List PyData}
theorem ev_repr (h : EvD K te σ H d) (ok : okR d = true) : Ev (tCB (rReprA K) (tCons te tNil)) σ H (.str d.shown) := fun H1 e Q q =>
  h H1 e _ fun v H2 e2 hv => by
    unfold okR at ok
    simp only [Bool.and_eq_true, Bool.not_eq_true', decide_eq_true_eq] at ok
    exact ⟨v, d, rfl, hv, ok.1.1.1, ok.1.1.2, ok.1.2, ok.2, q H2 e2⟩
theorem et_reprNe (h1 : EvD K ta σ H d) (h2 : EvD K tb σ H d) (ok : okR d = true) : EvT (tTest (tOp rNe (tCB (rReprA K) (tCons ta tNil)) (tCB (rReprA K) (tCons tb tNil)))) σ H false :=
  et_test (ev_is (ev_op (ev_repr h1 ok) (ev_repr h2 ok) (rv_ne rfl)) (by rw [decide_eq_true (rfl : V.str d.shown = V.str d.shown)]; rfl))
theorem ev_reprEq (h1 : EvD K ta σ H d) (h2 : EvD K tb σ H d) (ok : okR d = true) : Ev (tOp rEq (tCB (rReprA K) (tCons ta tNil)) (tCB (rReprA K) (tCons tb tNil))) σ H (.bl true) :=
  ev_is (ev_op (ev_repr h1 ok) (ev_repr h2 ok) (rv_eq rfl)) (by rw [decide_eq_true (rfl : V.str d.shown = V.str d.shown)])
/-- the last item of a tuple -/
theorem ed_last (h : EvD K ta σ H (.tuple (ds ++ [d]))) : EvD K (tOp (rIxT K) ta (tUn (rU fun i => .int (-i)) (tC (.int 1)))) σ H d := fun H1 e Q q =>
  h H1 e _ fun v H2 e2 hv => by
    obtain ⟨a, xs, rfl, hs, hd⟩ := dp_tup hv
    have hl := dpAll_len hd
    rw [List.length_append] at hl
    have hl : xs.length = ds.length + 1 := hl
    obtain ⟨x, h1, h2⟩ := dpAll_at' (i := ds.length) (d := d) hd (by simp)
    have hx : xs = xs.take ds.length ++ [x] := by
      have q1 := List.take_append_drop ds.length xs
      have q2 : xs.drop ds.length = [x] := by
        rw [List.drop_eq_getElem_cons (by omega)]
        have q3 := (List.getElem?_eq_some_iff.mp h1).2
        rw [q3, List.drop_of_length_le (by omega)]
      rw [q2] at q1
      exact q1.symm
    refine ⟨1, rfl, a, xs, -1, x, rfl, rfl, hs, ?_, q x H2 e2 h2⟩
    rw [hx]
    exact atI_last _ _
/-- a tuple without its last item -/
theorem ed_init (h : EvD K ta σ H (.tuple (ds ++ [d]))) : EvD K (tSl (rSlA K) ta tNoPart (tPart (tUn (rU fun i => .int (-i)) (tC (.int 1))))) σ H (.tuple ds) := fun H1 e Q q =>
  h H1 e _ fun v H2 e2 hv => by
    obtain ⟨a, xs, rfl, hs, hd⟩ := dp_tup hv
    have hl := dpAll_len hd
    rw [List.length_append] at hl
    have hl : xs.length = ds.length + 1 := hl
    have hc : cutV xs none (some (-1)) = xs.take ds.length := by
      unfold cutV
      rw [HT.sIx_none, List.drop_zero]
      show xs.take (((-1 : Int) + (xs.length : Int)).toNat - 0) = _
      rw [show ((-1 : Int) + (xs.length : Int)).toNat - 0 = ds.length by omega]
    refine ⟨1, rfl, _, rfl, a, xs, rfl, hs, fun z => ?_, fun _ p hp => ?_⟩
    · have z2 : ((-1 : Int) + (xs.length : Int)).toNat = xs.length := z.2
      omega
    · refine q _ _ (e2.trans (Ex.new hp)) (.tup (st_of upd_same) ?_)
      rw [hc]
      have q1 := dpAll_take ds.length (dpAll_ex (Ex.new (o := .tup (xs.take ds.length)) hp) _ hd)
      rw [List.take_left] at q1
      exact q1
/-- list + list -/
theorem en_cat {p : Addr} (ha : Ev ta σ H (.ref p)) (hp : LD K H p ds) (hb : EvN K tb σ H es) (hl : ds.length + es.length ≤ 100000) : EvN K (tOp rCat ta tb) σ H (ds ++ es) := fun H1 e Q q =>
  ha H1 e _ fun H2 e2 => hb H2 (e.trans e2) _ fun b ys H3 hb' e3 hb3 hd3 => by
    obtain ⟨xs, h1, h2⟩ := hp.ex ((e.trans e2).trans e3)
    refine ⟨p, b, xs, ys, rfl, rfl, h1, hb3, sz_of (by rw [dpAll_len h2, dpAll_len hd3]; exact hl), fun c hc => ?_⟩
    exact q c _ _ (fresh_back (e2.trans e3) hc) ((e2.trans e3).trans (Ex.new hc)) upd_same (dpAll_app (dpAll_ex (Ex.new hc) _ h2) (dpAll_ex (Ex.new hc) _ hd3))
end
end WR
set_option Elab.async false
set_option linter.all false
set_option maxRecDepth 100000
set_option maxHeartbeats 4000000
namespace WR
open PySem PySem.Spec PyProof.Rows L2 Evl

/-! ### errors of own classes held as values -/
/-- v is an error of the class at C with these fields -/
def XO (H : Hp) (v : V) (C : Addr) (fs : List (Str × V)) : Prop :=
  ∃ a, v = .ref a ∧ ((fs = [] ∧ H a = some (exo a C none)) ∨ ∃ d, H a = some (exo a C (some d)) ∧ H d = some (exd d fs))
theorem XO.ex {H H' : Hp} {v : V} {C : Addr} {fs : List (Str × V)} (h : XO H v C fs) (e : Ex H H') : XO H' v C fs := by
  obtain ⟨a, rfl, h⟩ := h
  rcases h with ⟨h1, h2⟩ | ⟨d, h1, h2⟩
  · exact ⟨a, rfl, .inl ⟨h1, e _ _ h2⟩⟩
  · exact ⟨a, rfl, .inr ⟨d, e _ _ h1, e _ _ h2⟩⟩
theorem XO.inst {X : Cx} {H : Hp} {h : Heap} {a C : Addr} {fs : List (Str × V)} (hok : HOk X.prog X.w H h) (x : XO H (.ref a) C fs) : ∃ (oe : Obj) (od : Option Obj), PySem.W.InstAt h a oe C od := by
  obtain ⟨b, eb, x⟩ := x
  cases eb
  rcases x with ⟨_, ha⟩ | ⟨d, ha, hd⟩
  · obtain ⟨t, ho⟩ := exo_at hok ha
    exact ⟨_, none, ⟨ho, rfl, rfl, trivial⟩⟩
  · obtain ⟨t, ho⟩ := exo_at hok ha
    obtain ⟨mA, hns, _⟩ := exd_at hok hd
    obtain ⟨od, hod, _⟩ := lookIn_ns hns
    exact ⟨_, some od, ⟨ho, rfl, rfl, hod⟩⟩
/-- isinstance(e, c), e such a value -/
def rIsX (K : PySem.W.Frag) : List V → Hp → VK → Prop := fun xs H Q => ∃ (a D : Addr) (fs : List (Str × V)) (c : V) (cv : Value) (b : Bool), xs = [.ref a, c] ∧ XO H (.ref a) D fs ∧ ExcC K D ∧ (∀ u, RelV c u → u = cv) ∧ PySem.W.kitOne K (.ref D) cv = some b ∧ Q (.bl b) H
theorem call_isX {X : Cx} : CallR X (.builtin "isinstance") (rIsX X.K) := by
  intro pins s σ H xs us Q I r h
  obtain ⟨a, D, fs, c, cv, b, rfl, hx, C, hcv, e, q⟩ := h
  cases r with
  | cons rx rr =>
    cases rr with
    | cons rt rr =>
      cases rr
      cases rx
      have ec := hcv _ rt
      subst ec
      obtain ⟨oe, od, J⟩ := hx.inst I.hok
      have hcl : (PySem.W.clsIn X.K D).isSome = true := by
        obtain ⟨cd, hc, _⟩ := PySem.W.any_some C.hd
        rw [hc]
        rfl
      exact PySem.W.kia_one (PySem.W.kitx_exc hcl C.hg C.hk C.hs C.ha C.hn C.ht C.hm) I.kIn J e (fun z => nomatch z) fun tk => ⟨.bl b, H, I.kept (t' := tk) fun _ _ z => z, rfl, q⟩
/-- e.f, e such a value -/
def tXa (K : PySem.W.Frag) (n : Str) (te : TE) : TE := fun σ H Q => te σ H fun x H1 => ∃ (a D d : Addr) (fs : List (Str × V)) (v : V), x = .ref a ∧ H1 a = some (exo a D (some d)) ∧ H1 d = some (exd d fs) ∧ ExcC K D ∧ PySem.W.findIn K (.ref D) n = some none ∧ fs.lookup n = some v ∧ Q v H1
theorem pe_xa {X : Cx} {e : Expr} {te : TE} {pos : Pos} {n : Str} (he : PE X e te) (hb : attributeBase e n X.env (eval e X.env) = eval e X.env := by rfl) :
    PE X (.Attribute e n pos) (tXa X.K n te) := by
  refine ⟨fun pins s σ H Q I h => ?_⟩
  refine attr_of hb (thn (he.run pins s σ H _ I h) fun u s1 hh => ?_)
  obtain ⟨x, H1, I1, rx, a, D, d, fs, v, ex, ha, hd, T, hno, l, q⟩ := hh
  subst ex
  obtain rfl : u = Value.ref a := rx
  obtain ⟨t, ho⟩ := exo_at I1.hok ha
  obtain ⟨mA, hns, hr⟩ := exd_at I1.hok hd
  obtain ⟨od, hod, hl⟩ := lookIn_ns hns
  obtain ⟨u, hu, ru⟩ := RelO.some_of (v := v) (o := mA n) (by rw [← l]; exact hr n)
  have J : PySem.W.InstAt s1.heap a _ D (some od) := ⟨ho, rfl, rfl, hod⟩
  exact HandSPX.exc_get I1.kIn J T.hg T.hk T.hs (PySem.W.findObj_own T.hd hno rfl (by rw [hl, hu])) (handed_of ru) ⟨v, H1, I1.tok _, ru, q⟩

section
variable {X : Cx} {C : Addr} {bmB : List Value} {B newId initId : String}
/-- X(), an own class without fields, as a value -/
theorem pe_mkX0 {x : Str} {p pos : Pos} (F : ExcBaseFacts B newId initId bmB) (q : PySem.W.excIn X.K C bmB newId = true) (gC : X.mg x = some (.ref C)) (kC : PySem.W.keepIn X.K (.ref C) = true) (hg : Gl X x)
    (hdb : (x == ("__debug__" : Str)) = false := by decide) :
    PE X (.Call (.Name x p) [] [] pos) (fun σ H Q => ∀ a, H a = none → Q (.ref a) (upd H a (exo a C none))) := by
  refine ⟨fun pins s σ H Q I h => ?_⟩
  refine wpAny_Call_Name_kw (ld_glob I hg gC ?_ hdb)
  refine PySem.W.callWith_K0 I.kIn kC ?_
  show wpAny _ _ (call (.ref C) []) _ _ _
  obtain ⟨bm, N, nm, qn, bs, hdct, sn, sub, ab, col, dd, k0, k1, k2, k3, k5, mN, hC, hN, hni, T⟩ := exc_obj I.kIn q
  refine wpAny_call_exc_subT F T hC hN hni (fun h' a hm => ?_) (by show 0 ≤ sizeLine; rw [sizeLine_eq]; omega)
  have hn : H a = none := I.hok.gone hm.new
  obtain ⟨t, ht, _, _⟩ := hm.there
  exact ⟨.ref a, upd H a (exo a C none), I.laidN hm.keeps hm.new hn (exo_ok ht), rfl, h a hn⟩
end
section
variable {X : Cx} {CX : CXT} {x : Str} {C fI : Addr} {k : Nat} {fd : FuncData} {ps : List Str} {sp : Sp} {e : Expr} {es : List Expr} {ta : TA} {p pos : Pos}
def tMkV (C : Addr) (sp : Sp) (ta : TA) : TE := fun σ H Q => ta σ H fun vs H1 => vs.length ≤ 1000 ∧ ∀ a, H1 a = none → sp (.ref a :: vs) (upd H1 a (exo a C none)) (fun v H2 => v = .non ∧ Q (.ref a) H2) fun _ _ _ => False
theorem pe_mkX (T : OexC X.K C) (iC : PySem.W.findIn X.K (.ref C) "__init__" = some (some (.ref fI))) (tI : PySem.W.typeIn X.K (.ref fI) = some (.type "function"))
    (F1 : FnOk X.prog X.w X.K X.mg X.base CX k fI fd ps sp) (hr : Room (k + 1) X.A) (hb : Binds X.K fd ps []) (hx : Passes CX X (fun _ _ _ => False)) (hg : Gl X x) (hm : X.mg x = some (.ref C)) (ha : PA X (e :: es) ta)
    (hdb : (x == ("__debug__" : Str)) = false := by decide) (he : starEach (e :: es) X.env = (false, eval e X.env) :: starEach es X.env := by rfl) (hpl : (backTo pos (starEach es X.env)).any (·.1) = false := by rfl) :
    PE X (.Call (.Name x p) (e :: es) [] pos) (tMkV C sp ta) := by
  refine ⟨fun pins s σ H Q I h => ?_⟩
  obtain ⟨nm, q, N, bs, bm, sn, sub, ab, col, dd, k0, k1, k2, k3, k5, hC, hbm⟩ := T.cls
  refine wpAny_Call_Name_kw (ld_glob I hg hm ?_ hdb)
  refine PySem.W.callWith_K (h₀ := X.base) I.ok.mod.kin T.kC (thn (ha.run pos pins s σ H _ I h) fun us s1 ⟨vs, H1, I1, r1, hz, q1⟩ => ⟨I1.kIn, ?_⟩) he hpl
  show wpAny _ _ (call (.ref C) us) _ _ _
  obtain ⟨hp, g, dr, tk, os⟩ := s1
  have hsz : hp.objs.size ≤ hp.objs.size + 1 := Nat.le_succ _
  have hn : H1 (hp.objs.size + 1) = none := I1.hok.fresh hsz
  have hq := q1 (hp.objs.size + 1) hn
  have kk : ∀ b o, hp.get? b = some o → ((hp.push (PySem.W.kdv_tup us)).push (PySem.HandSPX.excO C hp.objs.size)).get? b = some o := fun b o e => Heap.get?_push_of_some _ (Heap.get?_push_of_some _ e)
  have hget : ((hp.push (PySem.W.kdv_tup us)).push (PySem.HandSPX.excO C hp.objs.size)).get? (hp.objs.size + 1) = some (PySem.HandSPX.excO C hp.objs.size) := by heap_get
  have I2 : Inv X pins σ (upd H1 (hp.objs.size + 1) (exo (hp.objs.size + 1) C none)) ⟨(hp.push (PySem.W.kdv_tup us)).push (PySem.HandSPX.excO C hp.objs.size), g, dr, tk, os⟩ :=
    I1.laid (t' := tk) (a := hp.objs.size + 1) (o := exo (hp.objs.size + 1) C none) (h' := (hp.push (PySem.W.kdv_tup us)).push (PySem.HandSPX.excO C hp.objs.size)) kk hsz (exo_ok hget)
  have r2 : Vals (V.ref (hp.objs.size + 1) :: vs) (Value.ref (hp.objs.size + 1) :: us) := .cons rfl r1
  have hl : (Value.ref (hp.objs.size + 1) :: us ++ []).length = ps.length := by
    have e := r2.length
    rw [F1.len _ _ _ _ hq] at e
    rw [List.append_nil]
    exact e.symm
  have hus : us.length ≤ sizeLine := by
    rw [← Paired.length r1, sizeLine_eq]
    omega
  have hbs := hb ⟨(hp.push (PySem.W.kdv_tup us)).push (PySem.HandSPX.excO C hp.objs.size), g, dr, tk, os⟩ (Value.ref (hp.objs.size + 1) :: us) I2.kIn hl
  rw [List.append_nil] at hbs
  refine wpAny_call (PySem.HandSPX.call_own F.excBase_ValueError (fun Y => PySem.HandSPX.refsVE_contains Y bm hbm) (I1.kIn _ _ hC) (PySem.W.looks_findIn I1.kIn iC) (fun self => PySem.W.bind_fn I1.kIn self tI) hus
    (codeAny_mono (F1.run _ X.stack _ _ ⟨Value.ref (hp.objs.size + 1) :: us, []⟩ (Value.ref (hp.objs.size + 1) :: us) _ _ (fun _ _ _ => False) (hr.make C us []) (I2.env0.make C us []) hbs r2 hq) fun r s' hq' => ?_))
  cases r with
  | error er => exact hx pins σ _ _ er s' I2 hq'
  | ok fl =>
    cases fl with
    | ret u =>
      obtain ⟨v, H2, I3, rv, ev, q2⟩ := I2.after hq'
      subst ev
      exact ⟨rv, .ref (hp.objs.size + 1), H2, I3, rfl, q2⟩
    | next => exact False.elim hq'
    | brk => exact False.elim hq'
    | cont => exact False.elim hq'
end
end WR
set_option Elab.async false
set_option linter.all false
set_option maxRecDepth 100000
set_option maxHeartbeats 4000000
namespace PySem
namespace HandSPX
open PySem PySem.Spec PySem.Calls PyProof.Rows PySem.W
section
variable {M : Model} {A : Around} {E : Value → Shared → Prop} {h : Heap} {g : Array GenState} {d : Drawn} {t : Nat} {os : OsState}
variable {nm q : Str} {C N : Addr} {bs bm bmB : List Value} {hdct : Bool} {sn : List Str} {sub : List Value} {ab : Bool} {col : Option Bool} {dd : Option Addr} {k0 k1 k2 k3 k5 : Option Value} {B newId initId : String}
theorem check_new_kw (F : ExcBaseFacts B newId initId bmB) (hT : ∀ X : String, bm.contains (.type X) = bmB.contains (.type X)) {rest : List Value} {kw : List (Str × Value)} {Q : Unit → Shared → Prop}
    (hC : h.get? C = some (excClassObj nm q C N bs bm hdct sn sub ab col dd k0 k1 k2 k3 k5 newId)) (hq : Q () ⟨h, g, d, t, os⟩) : wpAny M A (checkBuiltinCall newId ⟨.ref C :: rest, kw⟩) Q E ⟨h, g, d, t, os⟩ := by
  have hcont : (Value.ref C :: bm).contains (.type B) = true := by rw [List.contains_cons, hT, F.hasB, Bool.or_true]
  have hstar := F.noStar
  simp only [checkBuiltinCall, F.newKind, F.newSplit, F.newRow]
  repeat (first | refine wpAny_loadPart_at hC ?_ | (refine wpAny_isSubtype_exc hC ?_; rw [hcont]) | refine wpAny_staticBase_exc hC ?_ | refine wpAny_madeBy_exc hC ?_ | simp only [bne_self_eq_false, Bool.false_eq_true, if_false] | wp_step)
  exact hq
end
section
variable {prog : Program} {w : World} {A : Around} {E : Value → Shared → Prop} {R : Result → Shared → Prop} {h : Heap} {g : Array GenState} {d : Drawn} {t : Nat} {os : OsState}
variable {nm q : Str} {C N : Addr} {bs bm bmB : List Value} {hdct : Bool} {sn : List Str} {sub : List Value} {ab : Bool} {col : Option Bool} {dd : Option Addr} {k0 k1 k2 k3 k5 : Option Value} {B newId initId : String}
theorem new_kw (F : ExcBaseFacts B newId initId bmB) (hT : ∀ X : String, bm.contains (.type X) = bmB.contains (.type X)) {rest : List Value} {kw : List (Str × Value)}
    (hC : h.get? C = some (excClassObj nm q C N bs bm hdct sn sub ab col dd k0 k1 k2 k3 k5 newId))
    (hq : R (.ok (.ret (.ref (h.objs.size + 1)))) ⟨(h.push { cls := .type "tuple", data := .seq rest.toArray }).push
      { cls := .ref C, data := .fields #[.ref h.objs.size, .none, .none, .none, .bool false, .none] }, g, d, t, os⟩) (hrest : rest.length ≤ sizeLine) :
    codeAny (model prog w) A (.builtin newId ⟨.ref C :: rest, kw⟩) R ⟨h, g, d, t, os⟩ := by
  have hends := F.ends
  have hcB : (Value.ref C :: bm).contains (.type B) = true := by rw [List.contains_cons, hT, F.hasB, Bool.or_true]
  have hcA : (Value.ref C :: bm).contains (.type "AttributeError") = false := by rw [List.contains_cons, hT, F.noAttr]; rfl
  have hcN : (Value.ref C :: bm).contains (.type "NameError") = false := by rw [List.contains_cons, hT, F.noName]; rfl
  refine codeAny_builtinAt F.entry ?_
  unfold Builtin.«BaseException.__new__»
  refine wpAt_bind ?_
  show wpAt _ _ _ (stack >>= _) _ _ _
  refine wpAt_bind (wpAt_stack fun p below => wpAt_of_wpAny ?_)
  wp_walk
  refine wpAt_of_wpAny ?_
  rw [F.owner]
  repeat (first | with_reducible refine wpAny_madeHere_exc F.canon hC ?_ | with_reducible refine wpAny_loadPart_at hC ?_ | (with_reducible refine wpAny_isSubtype_exc hC ?_; first | rw [hcB] | rw [hcA] | rw [hcN]) | wp_step)
  show R _ _
  rw [Heap.size_push]
  exact hq
theorem type_call_kw (F : ExcBaseFacts B newId initId bmB) (hT : ∀ X : String, bm.contains (.type X) = bmB.contains (.type X)) {rest : List Value} {kw : List (Str × Value)} {fI : Addr} {Q : Fin → Shared → Prop}
    (hC : h.get? C = some (excClassObj nm q C N bs bm hdct sn sub ab col dd k0 k1 k2 k3 k5 newId))
    (hi : W.Looks (model prog w) h (typeLookup (.ref C) "__init__") (some (.ref fI))) (hb : ∀ self, W.Looks (model prog w) h (bindSpecial (.ref fI) self) (.ref fI, [self])) (hrest : rest.length ≤ sizeLine)
    (hq : codeAny (model prog w) A (.call (.ref fI) ⟨.ref (h.objs.size + 1) :: rest, kw⟩)
      (fun r s' => match r with | .ok (.ret v) => v = .none ∧ Q (.done (.ret (.ref (h.objs.size + 1)))) s' | .ok _ => False | .error e => E e s')
      ⟨(h.push (W.kdv_tup rest)).push (excO C h.objs.size), g, d, t, os⟩) :
    wpAny (model prog w) A (Builtin.«type.__call__» ⟨.ref C :: rest, kw⟩) Q E ⟨h, g, d, t, os⟩ := by
  repeat (first | with_reducible refine wpAny_loadPart_at hC ?_ | with_reducible refine wpAny_madeBy_exc hC ?_ | wp_step)
  refine codeAny_call_builtin_code (Code.quiet_builtin _ F.quiet) (check_new_kw F hT hC ?_)
  refine new_kw F hT hC ?_ hrest
  show wpAny _ _ _ _ _ _
  have k : ∀ b o, h.get? b = some o → ((h.push (W.kdv_tup rest)).push (excO C h.objs.size)).get? b = some o := fun b o e => Heap.get?_push_of_some _ (Heap.get?_push_of_some _ e)
  have hC₁ := k _ _ hC
  have hget : ((h.push (W.kdv_tup rest)).push (excO C h.objs.size)).get? (h.objs.size + 1) = some (excO C h.objs.size) := by heap_get
  have hcC : (Value.ref C :: bm).contains (.ref C) = true := by simp
  have i1 := hi.keeps k
  have b1 := (hb (.ref (h.objs.size + 1))).keeps k
  unfold isInstance
  repeat (first | with_reducible refine wpAny_loadPart_at hget ?_ | (with_reducible refine wpAny_isSubtype_exc hC₁ ?_; rw [hcC]) | wp_step)
  show wpAny _ _ (typeLookup (.ref C) _) _ _ _
  refine i1.at ?_
  refine wpAny_holding (wpAny_bind (b1.at ?_))
  refine wpAny_bind (wpAny_call (codeAny_mono hq fun r s' z => ?_))
  rcases r with e | (v | _ | _ | _) <;> first | exact z | exact z.elim | skip
  obtain ⟨rfl, z⟩ := z
  first
    | exact wpAny_pure (wpAny_pure z)
    | (wp_walk; exact z)
theorem call_kw (F : ExcBaseFacts B newId initId bmB) (hT : ∀ X : String, bm.contains (.type X) = bmB.contains (.type X)) {rest : List Value} {kw : List (Str × Value)} {fI : Addr}
    (hC : h.get? C = some (excClassObj nm q C N bs bm hdct sn sub ab col dd k0 k1 k2 k3 k5 newId))
    (hi : W.Looks (model prog w) h (typeLookup (.ref C) "__init__") (some (.ref fI))) (hb : ∀ self, W.Looks (model prog w) h (bindSpecial (.ref fI) self) (.ref fI, [self])) (hrest : rest.length ≤ sizeLine)
    (hq : codeAny (model prog w) (A.under (.builtin "type.__call__" ⟨.ref C :: rest, kw⟩)) (.call (.ref fI) ⟨.ref (h.objs.size + 1) :: rest, kw⟩) (W.InitBack (h.objs.size + 1) R)
      ⟨(h.push (W.kdv_tup rest)).push (excO C h.objs.size), g, d, t, os⟩) :
    codeAny (model prog w) A (.call (.ref C) ⟨rest, kw⟩) R ⟨h, g, d, t, os⟩ := by
  have f1 := tc_lookup
  have f2 := tc_bind (.ref C)
  have hTy : (⟨h, g, d, t, os⟩ : Shared).TypeIs (.ref C) "type" := ⟨_, hC, rfl⟩
  refine codeAny_of_tree ?_
  show wpAny _ _ (callAny (.ref C) _) _ _ _
  repeat (any_goals (first | assumption | with_reducible refine wpAny_loadPart_at hC ?_ | wp_step))
  refine ⟨rfl, ?_⟩
  refine codeAny_call_builtin_at (Code.quiet_builtin _ (by decide +kernel)) entry_typeCall (wpAny_check_type_call_sub hC (type_call_kw F hT hC hi hb hrest ?_))
  refine codeAny_mono hq fun r s' z => ?_
  rcases r with e | (v | _ | _ | _) <;> exact z
end
end HandSPX
end PySem
namespace WR
open PySem PySem.Spec PyProof.Rows L2 Evl
section
variable {X : Cx} {CX : CXT} {x : Str} {C fI : Addr} {k : Nat} {fd : FuncData} {ps ks : List Str} {sp : Sp} {kws : List Keyword} {tk : TA} {p pos : Pos} {g : List Value → List Value → List Value} {gV : List V → List V → List V}
/-- X(k = v, ..), an own class with its __init__, as a value -/
def tMkK (C : Addr) (sp : Sp) (gV : List V → List V → List V) (tk : TA) : TE := fun σ H Q => tk σ H fun zs H1 => ∀ a, H1 a = none → sp (gV [.ref a] zs) (upd H1 a (exo a C none)) (fun v H2 => v = .non ∧ Q (.ref a) H2) fun _ _ _ => False
theorem pe_mkXK (T : OexC X.K C) (iC : PySem.W.findIn X.K (.ref C) "__init__" = some (some (.ref fI))) (tI : PySem.W.typeIn X.K (.ref fI) = some (.type "function"))
    (F1 : FnOk X.prog X.w X.K X.mg X.base CX k fI fd ps sp) (hr : Room (k + 1) X.A) (hb : KBinds X.K fd ps ks g gV) (hx : Passes CX X (fun _ _ _ => False)) (hg : Gl X x) (hm : X.mg x = some (.ref C)) (hkw : PK X kws tk)
    (hall : (backToKw pos (keywordEach kws X.env)).all (·.1.isSome) = true := by rfl) (hks : (backToKw pos (keywordEach kws X.env)).filterMap (·.1) = ks := by rfl)
    (hdb : (x == ("__debug__" : Str)) = false := by decide) (hpl : ((backTo pos (starEach [] X.env)).any (·.1) || (backToKw pos (keywordEach kws X.env)).any (·.1.isNone)) = false := by rfl) :
    PE X (.Call (.Name x p) [] kws pos) (tMkK C sp gV tk) := by
  refine ⟨fun pins s σ H Q I h => ?_⟩
  obtain ⟨nm, q, N, bs, bm, sn, sub, ab, col, dd, k0, k1, k2, k3, k5, hC, hbm⟩ := T.cls
  refine wpAny_Call_Name_kw (ld_glob I hg hm ?_ hdb)
  refine PySem.W.callWith_KW0 (h₀ := X.base) I.ok.mod.kin T.kC hall (thn (hkw.run pos pins s σ H _ I h) fun ws s1 ⟨zs, H1, I1, rz, q1⟩ => ⟨I1.kIn, ?_⟩) hpl
  rw [hks]
  show wpAny _ _ (call (.ref C) [] (ks.zip ws)) _ _ _
  obtain ⟨hp, gg, dr, tk', os⟩ := s1
  have hsz : hp.objs.size ≤ hp.objs.size + 1 := Nat.le_succ _
  have hn : H1 (hp.objs.size + 1) = none := I1.hok.fresh hsz
  have hq := q1 (hp.objs.size + 1) hn
  have kk : ∀ b o, hp.get? b = some o → ((hp.push (PySem.W.kdv_tup [])).push (PySem.HandSPX.excO C hp.objs.size)).get? b = some o := fun b o e => Heap.get?_push_of_some _ (Heap.get?_push_of_some _ e)
  have hget : ((hp.push (PySem.W.kdv_tup [])).push (PySem.HandSPX.excO C hp.objs.size)).get? (hp.objs.size + 1) = some (PySem.HandSPX.excO C hp.objs.size) := by heap_get
  have I2 : Inv X pins σ (upd H1 (hp.objs.size + 1) (exo (hp.objs.size + 1) C none)) ⟨(hp.push (PySem.W.kdv_tup [])).push (PySem.HandSPX.excO C hp.objs.size), gg, dr, tk', os⟩ :=
    I1.laid (t' := tk') (a := hp.objs.size + 1) (o := exo (hp.objs.size + 1) C none) (h' := (hp.push (PySem.W.kdv_tup [])).push (PySem.HandSPX.excO C hp.objs.size)) kk hsz (exo_ok hget)
  have r1 : Vals [V.ref (hp.objs.size + 1)] [Value.ref (hp.objs.size + 1)] := .cons rfl .nil
  have r2 := hb.rel r1 rz
  have hl : (g [Value.ref (hp.objs.size + 1)] ws).length = ps.length := by rw [← r2.length]; exact F1.len _ _ _ _ hq
  refine wpAny_call (PySem.HandSPX.call_kw F.excBase_ValueError (fun Y => PySem.HandSPX.refsVE_contains Y bm hbm) (I1.kIn _ _ hC) (PySem.W.looks_findIn I1.kIn iC) (fun self => PySem.W.bind_fn I1.kIn self tI) (Nat.zero_le _)
    (codeAny_mono (F1.run _ X.stack _ _ ⟨[Value.ref (hp.objs.size + 1)], ks.zip ws⟩ (g [Value.ref (hp.objs.size + 1)] ws) _ _ (fun _ _ _ => False) (hr.make C [] (ks.zip ws)) (I2.env0.make C [] (ks.zip ws)) (hb.to _ [Value.ref (hp.objs.size + 1)] ws I2.kIn hl) r2 hq) fun r s' hq' => ?_))
  cases r with
  | error er => exact hx pins σ _ _ er s' I2 hq'
  | ok fl =>
    cases fl with
    | ret u =>
      obtain ⟨v, H2, I3, rv, ev, q2⟩ := I2.after hq'
      subst ev
      exact ⟨rv, .ref (hp.objs.size + 1), H2, I3, rfl, q2⟩
    | next => exact False.elim hq'
    | brk => exact False.elim hq'
    | cont => exact False.elim hq'
end
end WR
set_option Elab.async false
set_option linter.all false
set_option maxRecDepth 100000
set_option maxHeartbeats 1000000
namespace WR
open PySem PySem.Spec PyProof.Rows L2 Evl

/-! ### the errors' own __init__ -/
def initOfX : Stmt → Stmt
  | .ClassDef _ _ _ (b :: _) _ _ _ _ _ _ _ => b
  | s => s
def spI1 (K : PySem.W.Frag) (C : Addr) (f : Str) : Sp := fun vs H Q _ => ∃ a x, vs = [.ref a, x] ∧ H a = some (exo a C none) ∧ ∀ d, H d = none → d ≠ a → Q .non (upd (upd H d (exd d [(f, x)])) a (exo a C (some d)))
def spI2 (K : PySem.W.Frag) (C : Addr) (f g : Str) : Sp := fun vs H Q _ => ∃ a x y, vs = [.ref a, x, y] ∧ H a = some (exo a C none) ∧ ∀ d, H d = none → d ≠ a → Q .non (upd (upd (upd H d (exd d [(f, x)])) a (exo a C (some d))) d (exd d [(g, y), (f, x)]))
def gI1 {α : Type} : List α → List α → List α
  | [a], [x] => [a, x]
  | _, _ => []
def gI2 {α : Type} : List α → List α → List α
  | [a], [y, x] => [a, x, y]
  | _, _ => []
theorem gI1_rel {vs : List V} {us : List Value} {zs : List V} {ws : List Value} (r : Vals vs us) (s : Vals zs ws) : Vals (gI1 vs zs) (gI1 us ws) := by
  cases r with
  | nil => exact .nil
  | cons a r =>
    cases r with
    | cons b r => exact .nil
    | nil =>
      cases s with
      | nil => exact .nil
      | cons c s =>
        cases s with
        | nil => exact .cons a (.cons c .nil)
        | cons d s => exact .nil
theorem gI2_rel {vs : List V} {us : List Value} {zs : List V} {ws : List Value} (r : Vals vs us) (s : Vals zs ws) : Vals (gI2 vs zs) (gI2 us ws) := by
  cases r with
  | nil => exact .nil
  | cons a r =>
    cases r with
    | cons b r => exact .nil
    | nil =>
      cases s with
      | nil => exact .nil
      | cons c s =>
        cases s with
        | nil => exact .nil
        | cons d s =>
          cases s with
          | nil => exact .cons a (.cons d (.cons c .nil))
          | cons e s => exact .nil
theorem gI1_len {us ws : List Value} (h : (gI1 us ws).length = 2) : ∃ a x, us = [a] ∧ ws = [x] := by
  match us, ws, h with
  | [a], [x], _ => exact ⟨a, x, rfl, rfl⟩
  | [], _, h => cases h
  | [_], [], h => cases h
  | [_], _ :: _ :: _, h => cases h
  | _ :: _ :: _, _, h => cases h
theorem gI2_len {us ws : List Value} (h : (gI2 us ws).length = 3) : ∃ a y x, us = [a] ∧ ws = [y, x] := by
  match us, ws, h with
  | [a], [y, x], _ => exact ⟨a, y, x, rfl, rfl⟩
  | [], _, h => cases h
  | [_], [], h => cases h
  | [_], [_], h => cases h
  | [_], _ :: _ :: _ :: _, h => cases h
  | _ :: _ :: _, _, h => cases h
/-- what is asked of a class with one field, and of one with two -/
def XI1 (P : Program) (w : World) (K : PySem.W.Frag) (mg : Str → Option Value) (base : Heap) (C : Addr) (f : Str) : Prop :=
  ∃ fI fd, OexC K C ∧ PySem.W.findIn K (.ref C) "__init__" = some (some (.ref fI)) ∧ PySem.W.typeIn K (.ref fI) = some (.type "function") ∧ FnOk P w K mg base CX0 1 fI fd ["self", f] (spI1 K C f) ∧ Binds K fd ["self", f] [] ∧ KBinds K fd ["self", f] [f] gI1 gI1 ∧ PySem.W.findIn K (.ref C) f = some none
def XI2 (P : Program) (w : World) (K : PySem.W.Frag) (mg : Str → Option Value) (base : Heap) (C : Addr) (f g : Str) : Prop :=
  ∃ fI fd, OexC K C ∧ PySem.W.findIn K (.ref C) "__init__" = some (some (.ref fI)) ∧ PySem.W.typeIn K (.ref fI) = some (.type "function") ∧ FnOk P w K mg base CX0 1 fI fd ["self", f, g] (spI2 K C f g) ∧ Binds K fd ["self", f, g] [] ∧ KBinds K fd ["self", f, g] [g, f] gI2 gI2 ∧ PySem.W.findIn K (.ref C) f = some none ∧ PySem.W.findIn K (.ref C) g = some none

abbrev sI_NoPaper : Stmt := initOfX s_NoPaper
theorem scI_NoPaper : FnScope ["self", "word", "number"] ["self", "word", "number"] (defScope sI_NoPaper) := ⟨rfl, rfl, rfl, by decide +kernel, rfl, by decide +kernel, by decide +kernel⟩
section
variable {P : Program} {w : World} {K : PySem.W.Frag} {mg : Str → Option Value} {base : Heap}
theorem xi_NoPaper {f C : Addr} {fd : FuncData} (F : Fun K "__init__" "NoPaper.__init__" sI_NoPaper f fd) (T : OexC K C) (iC : PySem.W.findIn K (.ref C) "__init__" = some (some (.ref f))) (tI : PySem.W.typeIn K (.ref f) = some (.type "function")) (n1 : PySem.W.findIn K (.ref C) "word" = some none) (n2 : PySem.W.findIn K (.ref C) "number" = some none) :
    XI2 P w K mg base C "word" "number" := by
  refine ⟨f, fd, T, iC, tI, F.ok scI_NoPaper (fun vs H Q E h => ?_) (fun cdv A outer s H vs Q E hr h => ?_), F.binds fun _ _ _ _ _ _ us hl => match us, hl with | [_, _, _], _ => rfl, ⟨fun s us ws X hl => ?_, gI2_rel⟩, n1, n2⟩
  · obtain ⟨a, x, y, rfl, _⟩ := h
    rfl
  · obtain ⟨a, x, y, rfl, ha, q⟩ := h
    refine ⟨_, pss_cons (ps_ost (f := "word") (pv 0) (pv 1)) (pss_one (ps_ost (f := "number") (pv 0) (pv 2))), ?_⟩
    refine ⟨x, rfl, .ref a, rfl, a, C, rfl, T, n1, Or.inl ⟨ha, fun d hd hne => ?_⟩⟩
    refine ⟨y, rfl, .ref a, rfl, a, C, rfl, T, n2, Or.inr ⟨d, [("word", x)], upd_same, ?_, by show 1 ≤ 900; decide, q d hd hne⟩⟩
    rw [upd_ne hne]
    exact upd_same
  · obtain ⟨a, y, x, rfl, rfl⟩ := gI2_len hl
    obtain ⟨oc, od, kV, doc, pm, an, cdv, ct, osl, rfl, lk, hcd⟩ := F.ex
    exact .of_eq rfl
end
abbrev sI_NoWay : Stmt := initOfX s_NoWay
theorem scI_NoWay : FnScope ["self", "value"] ["self", "value"] (defScope sI_NoWay) := ⟨rfl, rfl, rfl, by decide +kernel, rfl, by decide +kernel, by decide +kernel⟩
section
variable {P : Program} {w : World} {K : PySem.W.Frag} {mg : Str → Option Value} {base : Heap}
theorem xi_NoWay {f C : Addr} {fd : FuncData} (F : Fun K "__init__" "NoWay.__init__" sI_NoWay f fd) (T : OexC K C) (iC : PySem.W.findIn K (.ref C) "__init__" = some (some (.ref f))) (tI : PySem.W.typeIn K (.ref f) = some (.type "function")) (n1 : PySem.W.findIn K (.ref C) "value" = some none) :
    XI1 P w K mg base C "value" := by
  refine ⟨f, fd, T, iC, tI, F.ok scI_NoWay (fun vs H Q E h => ?_) (fun cdv A outer s H vs Q E hr h => ?_), F.binds fun _ _ _ _ _ _ us hl => match us, hl with | [_, _], _ => rfl, ⟨fun s us ws X hl => ?_, gI1_rel⟩, n1⟩
  · obtain ⟨a, x, rfl, _⟩ := h
    rfl
  · obtain ⟨a, x, rfl, ha, q⟩ := h
    refine ⟨_, pss_one (ps_ost (f := "value") (pv 0) (pv 1)), ?_⟩
    exact ⟨x, rfl, .ref a, rfl, a, C, rfl, T, n1, Or.inl ⟨ha, fun d hd hne => q d hd hne⟩⟩
  · obtain ⟨a, x, rfl, rfl⟩ := gI1_len hl
    obtain ⟨oc, od, kV, doc, pm, an, cdv, ct, osl, rfl, lk, hcd⟩ := F.ex
    exact .of_eq rfl
end
abbrev sI_NoWeb : Stmt := initOfX s_NoWeb
theorem scI_NoWeb : FnScope ["self", "word", "row"] ["self", "word", "row"] (defScope sI_NoWeb) := ⟨rfl, rfl, rfl, by decide +kernel, rfl, by decide +kernel, by decide +kernel⟩
section
variable {P : Program} {w : World} {K : PySem.W.Frag} {mg : Str → Option Value} {base : Heap}
theorem xi_NoWeb {f C : Addr} {fd : FuncData} (F : Fun K "__init__" "NoWeb.__init__" sI_NoWeb f fd) (T : OexC K C) (iC : PySem.W.findIn K (.ref C) "__init__" = some (some (.ref f))) (tI : PySem.W.typeIn K (.ref f) = some (.type "function")) (n1 : PySem.W.findIn K (.ref C) "word" = some none) (n2 : PySem.W.findIn K (.ref C) "row" = some none) :
    XI2 P w K mg base C "word" "row" := by
  refine ⟨f, fd, T, iC, tI, F.ok scI_NoWeb (fun vs H Q E h => ?_) (fun cdv A outer s H vs Q E hr h => ?_), F.binds fun _ _ _ _ _ _ us hl => match us, hl with | [_, _, _], _ => rfl, ⟨fun s us ws X hl => ?_, gI2_rel⟩, n1, n2⟩
  · obtain ⟨a, x, y, rfl, _⟩ := h
    rfl
  · obtain ⟨a, x, y, rfl, ha, q⟩ := h
    refine ⟨_, pss_cons (ps_ost (f := "word") (pv 0) (pv 1)) (pss_one (ps_ost (f := "row") (pv 0) (pv 2))), ?_⟩
    refine ⟨x, rfl, .ref a, rfl, a, C, rfl, T, n1, Or.inl ⟨ha, fun d hd hne => ?_⟩⟩
    refine ⟨y, rfl, .ref a, rfl, a, C, rfl, T, n2, Or.inr ⟨d, [("word", x)], upd_same, ?_, by show 1 ≤ 900; decide, q d hd hne⟩⟩
    rw [upd_ne hne]
    exact upd_same
  · obtain ⟨a, y, x, rfl, rfl⟩ := gI2_len hl
    obtain ⟨oc, od, kV, doc, pm, an, cdv, ct, osl, rfl, lk, hcd⟩ := F.ex
    exact .of_eq rfl
end
abbrev sI_NoLink : Stmt := initOfX s_NoLink
theorem scI_NoLink : FnScope ["self", "parent", "child"] ["self", "parent", "child"] (defScope sI_NoLink) := ⟨rfl, rfl, rfl, by decide +kernel, rfl, by decide +kernel, by decide +kernel⟩
section
variable {P : Program} {w : World} {K : PySem.W.Frag} {mg : Str → Option Value} {base : Heap}
theorem xi_NoLink {f C : Addr} {fd : FuncData} (F : Fun K "__init__" "NoLink.__init__" sI_NoLink f fd) (T : OexC K C) (iC : PySem.W.findIn K (.ref C) "__init__" = some (some (.ref f))) (tI : PySem.W.typeIn K (.ref f) = some (.type "function")) (n1 : PySem.W.findIn K (.ref C) "parent" = some none) (n2 : PySem.W.findIn K (.ref C) "child" = some none) :
    XI2 P w K mg base C "parent" "child" := by
  refine ⟨f, fd, T, iC, tI, F.ok scI_NoLink (fun vs H Q E h => ?_) (fun cdv A outer s H vs Q E hr h => ?_), F.binds fun _ _ _ _ _ _ us hl => match us, hl with | [_, _, _], _ => rfl, ⟨fun s us ws X hl => ?_, gI2_rel⟩, n1, n2⟩
  · obtain ⟨a, x, y, rfl, _⟩ := h
    rfl
  · obtain ⟨a, x, y, rfl, ha, q⟩ := h
    refine ⟨_, pss_cons (ps_ost (f := "parent") (pv 0) (pv 1)) (pss_one (ps_ost (f := "child") (pv 0) (pv 2))), ?_⟩
    refine ⟨x, rfl, .ref a, rfl, a, C, rfl, T, n1, Or.inl ⟨ha, fun d hd hne => ?_⟩⟩
    refine ⟨y, rfl, .ref a, rfl, a, C, rfl, T, n2, Or.inr ⟨d, [("parent", x)], upd_same, ?_, by show 1 ≤ 900; decide, q d hd hne⟩⟩
    rw [upd_ne hne]
    exact upd_same
  · obtain ⟨a, y, x, rfl, rfl⟩ := gI2_len hl
    obtain ⟨oc, od, kV, doc, pm, an, cdv, ct, osl, rfl, lk, hcd⟩ := F.ex
    exact .of_eq rfl
end
abbrev sI_BadGraft : Stmt := initOfX s_BadGraft
theorem scI_BadGraft : FnScope ["self", "word"] ["self", "word"] (defScope sI_BadGraft) := ⟨rfl, rfl, rfl, by decide +kernel, rfl, by decide +kernel, by decide +kernel⟩
section
variable {P : Program} {w : World} {K : PySem.W.Frag} {mg : Str → Option Value} {base : Heap}
theorem xi_BadGraft {f C : Addr} {fd : FuncData} (F : Fun K "__init__" "BadGraft.__init__" sI_BadGraft f fd) (T : OexC K C) (iC : PySem.W.findIn K (.ref C) "__init__" = some (some (.ref f))) (tI : PySem.W.typeIn K (.ref f) = some (.type "function")) (n1 : PySem.W.findIn K (.ref C) "word" = some none) :
    XI1 P w K mg base C "word" := by
  refine ⟨f, fd, T, iC, tI, F.ok scI_BadGraft (fun vs H Q E h => ?_) (fun cdv A outer s H vs Q E hr h => ?_), F.binds fun _ _ _ _ _ _ us hl => match us, hl with | [_, _], _ => rfl, ⟨fun s us ws X hl => ?_, gI1_rel⟩, n1⟩
  · obtain ⟨a, x, rfl, _⟩ := h
    rfl
  · obtain ⟨a, x, rfl, ha, q⟩ := h
    refine ⟨_, pss_one (ps_ost (f := "word") (pv 0) (pv 1)), ?_⟩
    exact ⟨x, rfl, .ref a, rfl, a, C, rfl, T, n1, Or.inl ⟨ha, fun d hd hne => q d hd hne⟩⟩
  · obtain ⟨a, x, rfl, rfl⟩ := gI1_len hl
    obtain ⟨oc, od, kV, doc, pm, an, cdv, ct, osl, rfl, lk, hcd⟩ := F.ex
    exact .of_eq rfl
end
abbrev sI_BadWeb : Stmt := initOfX s_BadWeb
theorem scI_BadWeb : FnScope ["self", "error"] ["self", "error"] (defScope sI_BadWeb) := ⟨rfl, rfl, rfl, by decide +kernel, rfl, by decide +kernel, by decide +kernel⟩
section
variable {P : Program} {w : World} {K : PySem.W.Frag} {mg : Str → Option Value} {base : Heap}
theorem xi_BadWeb {f C : Addr} {fd : FuncData} (F : Fun K "__init__" "BadWeb.__init__" sI_BadWeb f fd) (T : OexC K C) (iC : PySem.W.findIn K (.ref C) "__init__" = some (some (.ref f))) (tI : PySem.W.typeIn K (.ref f) = some (.type "function")) (n1 : PySem.W.findIn K (.ref C) "error" = some none) :
    XI1 P w K mg base C "error" := by
  refine ⟨f, fd, T, iC, tI, F.ok scI_BadWeb (fun vs H Q E h => ?_) (fun cdv A outer s H vs Q E hr h => ?_), F.binds fun _ _ _ _ _ _ us hl => match us, hl with | [_, _], _ => rfl, ⟨fun s us ws X hl => ?_, gI1_rel⟩, n1⟩
  · obtain ⟨a, x, rfl, _⟩ := h
    rfl
  · obtain ⟨a, x, rfl, ha, q⟩ := h
    refine ⟨_, pss_one (ps_ost (f := "error") (pv 0) (pv 1)), ?_⟩
    exact ⟨x, rfl, .ref a, rfl, a, C, rfl, T, n1, Or.inl ⟨ha, fun d hd hne => q d hd hne⟩⟩
  · obtain ⟨a, x, rfl, rfl⟩ := gI1_len hl
    obtain ⟨oc, od, kV, doc, pm, an, cdv, ct, osl, rfl, lk, hcd⟩ := F.ex
    exact .of_eq rfl
end
abbrev sI_BadNames : Stmt := initOfX s_BadNames
theorem scI_BadNames : FnScope ["self", "names"] ["self", "names"] (defScope sI_BadNames) := ⟨rfl, rfl, rfl, by decide +kernel, rfl, by decide +kernel, by decide +kernel⟩
section
variable {P : Program} {w : World} {K : PySem.W.Frag} {mg : Str → Option Value} {base : Heap}
theorem xi_BadNames {f C : Addr} {fd : FuncData} (F : Fun K "__init__" "BadNames.__init__" sI_BadNames f fd) (T : OexC K C) (iC : PySem.W.findIn K (.ref C) "__init__" = some (some (.ref f))) (tI : PySem.W.typeIn K (.ref f) = some (.type "function")) (n1 : PySem.W.findIn K (.ref C) "names" = some none) :
    XI1 P w K mg base C "names" := by
  refine ⟨f, fd, T, iC, tI, F.ok scI_BadNames (fun vs H Q E h => ?_) (fun cdv A outer s H vs Q E hr h => ?_), F.binds fun _ _ _ _ _ _ us hl => match us, hl with | [_, _], _ => rfl, ⟨fun s us ws X hl => ?_, gI1_rel⟩, n1⟩
  · obtain ⟨a, x, rfl, _⟩ := h
    rfl
  · obtain ⟨a, x, rfl, ha, q⟩ := h
    refine ⟨_, pss_one (ps_ost (f := "names") (pv 0) (pv 1)), ?_⟩
    exact ⟨x, rfl, .ref a, rfl, a, C, rfl, T, n1, Or.inl ⟨ha, fun d hd hne => q d hd hne⟩⟩
  · obtain ⟨a, x, rfl, rfl⟩ := gI1_len hl
    obtain ⟨oc, od, kV, doc, pm, an, cdv, ct, osl, rfl, lk, hcd⟩ := F.ex
    exact .of_eq rfl
end
abbrev sI_NoKind : Stmt := initOfX s_NoKind
theorem scI_NoKind : FnScope ["self", "kind"] ["self", "kind"] (defScope sI_NoKind) := ⟨rfl, rfl, rfl, by decide +kernel, rfl, by decide +kernel, by decide +kernel⟩
section
variable {P : Program} {w : World} {K : PySem.W.Frag} {mg : Str → Option Value} {base : Heap}
theorem xi_NoKind {f C : Addr} {fd : FuncData} (F : Fun K "__init__" "NoKind.__init__" sI_NoKind f fd) (T : OexC K C) (iC : PySem.W.findIn K (.ref C) "__init__" = some (some (.ref f))) (tI : PySem.W.typeIn K (.ref f) = some (.type "function")) (n1 : PySem.W.findIn K (.ref C) "kind" = some none) :
    XI1 P w K mg base C "kind" := by
  refine ⟨f, fd, T, iC, tI, F.ok scI_NoKind (fun vs H Q E h => ?_) (fun cdv A outer s H vs Q E hr h => ?_), F.binds fun _ _ _ _ _ _ us hl => match us, hl with | [_, _], _ => rfl, ⟨fun s us ws X hl => ?_, gI1_rel⟩, n1⟩
  · obtain ⟨a, x, rfl, _⟩ := h
    rfl
  · obtain ⟨a, x, rfl, ha, q⟩ := h
    refine ⟨_, pss_one (ps_ost (f := "kind") (pv 0) (pv 1)), ?_⟩
    exact ⟨x, rfl, .ref a, rfl, a, C, rfl, T, n1, Or.inl ⟨ha, fun d hd hne => q d hd hne⟩⟩
  · obtain ⟨a, x, rfl, rfl⟩ := gI1_len hl
    obtain ⟨oc, od, kV, doc, pm, an, cdv, ct, osl, rfl, lk, hcd⟩ := F.ex
    exact .of_eq rfl
end
abbrev sI_NoVersion : Stmt := initOfX s_NoVersion
theorem scI_NoVersion : FnScope ["self", "value"] ["self", "value"] (defScope sI_NoVersion) := ⟨rfl, rfl, rfl, by decide +kernel, rfl, by decide +kernel, by decide +kernel⟩
section
variable {P : Program} {w : World} {K : PySem.W.Frag} {mg : Str → Option Value} {base : Heap}
theorem xi_NoVersion {f C : Addr} {fd : FuncData} (F : Fun K "__init__" "NoVersion.__init__" sI_NoVersion f fd) (T : OexC K C) (iC : PySem.W.findIn K (.ref C) "__init__" = some (some (.ref f))) (tI : PySem.W.typeIn K (.ref f) = some (.type "function")) (n1 : PySem.W.findIn K (.ref C) "value" = some none) :
    XI1 P w K mg base C "value" := by
  refine ⟨f, fd, T, iC, tI, F.ok scI_NoVersion (fun vs H Q E h => ?_) (fun cdv A outer s H vs Q E hr h => ?_), F.binds fun _ _ _ _ _ _ us hl => match us, hl with | [_, _], _ => rfl, ⟨fun s us ws X hl => ?_, gI1_rel⟩, n1⟩
  · obtain ⟨a, x, rfl, _⟩ := h
    rfl
  · obtain ⟨a, x, rfl, ha, q⟩ := h
    refine ⟨_, pss_one (ps_ost (f := "value") (pv 0) (pv 1)), ?_⟩
    exact ⟨x, rfl, .ref a, rfl, a, C, rfl, T, n1, Or.inl ⟨ha, fun d hd hne => q d hd hne⟩⟩
  · obtain ⟨a, x, rfl, rfl⟩ := gI1_len hl
    obtain ⟨oc, od, kV, doc, pm, an, cdv, ct, osl, rfl, lk, hcd⟩ := F.ex
    exact .of_eq rfl
end
abbrev sI_NoWatch : Stmt := initOfX s_NoWatch
theorem scI_NoWatch : FnScope ["self", "number"] ["self", "number"] (defScope sI_NoWatch) := ⟨rfl, rfl, rfl, by decide +kernel, rfl, by decide +kernel, by decide +kernel⟩
section
variable {P : Program} {w : World} {K : PySem.W.Frag} {mg : Str → Option Value} {base : Heap}
theorem xi_NoWatch {f C : Addr} {fd : FuncData} (F : Fun K "__init__" "NoWatch.__init__" sI_NoWatch f fd) (T : OexC K C) (iC : PySem.W.findIn K (.ref C) "__init__" = some (some (.ref f))) (tI : PySem.W.typeIn K (.ref f) = some (.type "function")) (n1 : PySem.W.findIn K (.ref C) "number" = some none) :
    XI1 P w K mg base C "number" := by
  refine ⟨f, fd, T, iC, tI, F.ok scI_NoWatch (fun vs H Q E h => ?_) (fun cdv A outer s H vs Q E hr h => ?_), F.binds fun _ _ _ _ _ _ us hl => match us, hl with | [_, _], _ => rfl, ⟨fun s us ws X hl => ?_, gI1_rel⟩, n1⟩
  · obtain ⟨a, x, rfl, _⟩ := h
    rfl
  · obtain ⟨a, x, rfl, ha, q⟩ := h
    refine ⟨_, pss_one (ps_ost (f := "number") (pv 0) (pv 1)), ?_⟩
    exact ⟨x, rfl, .ref a, rfl, a, C, rfl, T, n1, Or.inl ⟨ha, fun d hd hne => q d hd hne⟩⟩
  · obtain ⟨a, x, rfl, rfl⟩ := gI1_len hl
    obtain ⟨oc, od, kV, doc, pm, an, cdv, ct, osl, rfl, lk, hcd⟩ := F.ex
    exact .of_eq rfl
end
abbrev sI_BadText : Stmt := initOfX s_BadText
theorem scI_BadText : FnScope ["self", "place"] ["self", "place"] (defScope sI_BadText) := ⟨rfl, rfl, rfl, by decide +kernel, rfl, by decide +kernel, by decide +kernel⟩
section
variable {P : Program} {w : World} {K : PySem.W.Frag} {mg : Str → Option Value} {base : Heap}
theorem xi_BadText {f C : Addr} {fd : FuncData} (F : Fun K "__init__" "BadText.__init__" sI_BadText f fd) (T : OexC K C) (iC : PySem.W.findIn K (.ref C) "__init__" = some (some (.ref f))) (tI : PySem.W.typeIn K (.ref f) = some (.type "function")) (n1 : PySem.W.findIn K (.ref C) "place" = some none) :
    XI1 P w K mg base C "place" := by
  refine ⟨f, fd, T, iC, tI, F.ok scI_BadText (fun vs H Q E h => ?_) (fun cdv A outer s H vs Q E hr h => ?_), F.binds fun _ _ _ _ _ _ us hl => match us, hl with | [_, _], _ => rfl, ⟨fun s us ws X hl => ?_, gI1_rel⟩, n1⟩
  · obtain ⟨a, x, rfl, _⟩ := h
    rfl
  · obtain ⟨a, x, rfl, ha, q⟩ := h
    refine ⟨_, pss_one (ps_ost (f := "place") (pv 0) (pv 1)), ?_⟩
    exact ⟨x, rfl, .ref a, rfl, a, C, rfl, T, n1, Or.inl ⟨ha, fun d hd hne => q d hd hne⟩⟩
  · obtain ⟨a, x, rfl, rfl⟩ := gI1_len hl
    obtain ⟨oc, od, kV, doc, pm, an, cdv, ct, osl, rfl, lk, hcd⟩ := F.ex
    exact .of_eq rfl
end
abbrev sI_BadName : Stmt := initOfX s_BadName
theorem scI_BadName : FnScope ["self", "number"] ["self", "number"] (defScope sI_BadName) := ⟨rfl, rfl, rfl, by decide +kernel, rfl, by decide +kernel, by decide +kernel⟩
section
variable {P : Program} {w : World} {K : PySem.W.Frag} {mg : Str → Option Value} {base : Heap}
theorem xi_BadName {f C : Addr} {fd : FuncData} (F : Fun K "__init__" "BadName.__init__" sI_BadName f fd) (T : OexC K C) (iC : PySem.W.findIn K (.ref C) "__init__" = some (some (.ref f))) (tI : PySem.W.typeIn K (.ref f) = some (.type "function")) (n1 : PySem.W.findIn K (.ref C) "number" = some none) :
    XI1 P w K mg base C "number" := by
  refine ⟨f, fd, T, iC, tI, F.ok scI_BadName (fun vs H Q E h => ?_) (fun cdv A outer s H vs Q E hr h => ?_), F.binds fun _ _ _ _ _ _ us hl => match us, hl with | [_, _], _ => rfl, ⟨fun s us ws X hl => ?_, gI1_rel⟩, n1⟩
  · obtain ⟨a, x, rfl, _⟩ := h
    rfl
  · obtain ⟨a, x, rfl, ha, q⟩ := h
    refine ⟨_, pss_one (ps_ost (f := "number") (pv 0) (pv 1)), ?_⟩
    exact ⟨x, rfl, .ref a, rfl, a, C, rfl, T, n1, Or.inl ⟨ha, fun d hd hne => q d hd hne⟩⟩
  · obtain ⟨a, x, rfl, rfl⟩ := gI1_len hl
    obtain ⟨oc, od, kV, doc, pm, an, cdv, ct, osl, rfl, lk, hcd⟩ := F.ex
    exact .of_eq rfl
end
/-- what is asked of the 17 classes -/
structure XAll (P : Program) (w : World) (K : PySem.W.Frag) (mg : Str → Option Value) (base : Heap) (C : Nat → Addr) (WE : Addr) : Prop where
  g0 : mg "OtherLeaves" = some (.ref (C 0))
  x0 : PySem.W.excIn K (C 0) [.type "ValueError", .type "Exception", .type "BaseException", .type "object"] "ValueError.__new__" = true
  g1 : mg "NoPaper" = some (.ref (C 1))
  i1 : XI2 P w K mg base (C 1) "word" "number"
  g2 : mg "NoWay" = some (.ref (C 2))
  i2 : XI1 P w K mg base (C 2) "value"
  g3 : mg "TooMany" = some (.ref (C 3))
  x3 : PySem.W.excIn K (C 3) [.type "ValueError", .type "Exception", .type "BaseException", .type "object"] "ValueError.__new__" = true
  g4 : mg "NoWeb" = some (.ref (C 4))
  i4 : XI2 P w K mg base (C 4) "word" "row"
  g5 : mg "NoLink" = some (.ref (C 5))
  i5 : XI2 P w K mg base (C 5) "parent" "child"
  g6 : mg "BadGraft" = some (.ref (C 6))
  i6 : XI1 P w K mg base (C 6) "word"
  g7 : mg "BadWeb" = some (.ref (C 7))
  i7 : XI1 P w K mg base (C 7) "error"
  g8 : mg "BadNames" = some (.ref (C 8))
  i8 : XI1 P w K mg base (C 8) "names"
  g9 : mg "NoKind" = some (.ref (C 9))
  i9 : XI1 P w K mg base (C 9) "kind"
  g10 : mg "Full" = some (.ref (C 10))
  x10 : PySem.W.excIn K (C 10) [.type "ValueError", .type "Exception", .type "BaseException", .type "object"] "ValueError.__new__" = true
  g11 : mg "NothingDone" = some (.ref (C 11))
  x11 : PySem.W.excIn K (C 11) [.type "ValueError", .type "Exception", .type "BaseException", .type "object"] "ValueError.__new__" = true
  g12 : mg "NothingUndone" = some (.ref (C 12))
  x12 : PySem.W.excIn K (C 12) [.type "ValueError", .type "Exception", .type "BaseException", .type "object"] "ValueError.__new__" = true
  g13 : mg "NoVersion" = some (.ref (C 13))
  i13 : XI1 P w K mg base (C 13) "value"
  g14 : mg "NoWatch" = some (.ref (C 14))
  i14 : XI1 P w K mg base (C 14) "number"
  g15 : mg "BadText" = some (.ref (C 15))
  i15 : XI1 P w K mg base (C 15) "place"
  g16 : mg "BadName" = some (.ref (C 16))
  i16 : XI1 P w K mg base (C 16) "number"
  gW : mg "WebError" = some (.ref WE)
  kC : ∀ i, i < 17 → PySem.W.keepIn K (.ref (C i)) = true
  ec : ∀ i, i < 17 → ExcC K (C i)
  kit : ∀ i j, i < 17 → j < 17 → PySem.W.kitOne K (.ref (C i)) (.ref (C j)) = some (decide (j = i))
  kW : ∀ i, i < 17 → PySem.W.kitOne K (.ref (C i)) (.ref WE) = some true
  kV : ∀ i, i < 17 → PySem.W.kitOne K (.ref (C i)) (.type "ValueError") = some true
/-- which of the 17 is which other one, all at once -/
def kitAll (K : PySem.W.Frag) (C : Nat → Addr) (WE : Addr) : Bool := (List.range 17).all fun i => ((List.range 17).all fun j => decide (PySem.W.kitOne K (.ref (C i)) (.ref (C j)) = some (decide (j = i)))) && (decide (PySem.W.kitOne K (.ref (C i)) (.ref WE) = some true) && decide (PySem.W.kitOne K (.ref (C i)) (.type "ValueError") = some true))
theorem kit_of {K : PySem.W.Frag} {C : Nat → Addr} {WE : Addr} (h : kitAll K C WE = true) {i j : Nat} (hi : i < 17) (hj : j < 17) : PySem.W.kitOne K (.ref (C i)) (.ref (C j)) = some (decide (j = i)) :=
  of_decide_eq_true (List.all_eq_true.mp (Bool.and_eq_true_iff.mp (List.all_eq_true.mp h i (List.mem_range.mpr hi))).1 j (List.mem_range.mpr hj))
theorem kitw_of {K : PySem.W.Frag} {C : Nat → Addr} {WE : Addr} (h : kitAll K C WE = true) {i : Nat} (hi : i < 17) : PySem.W.kitOne K (.ref (C i)) (.ref WE) = some true ∧ PySem.W.kitOne K (.ref (C i)) (.type "ValueError") = some true := by
  have q := Bool.and_eq_true_iff.mp (Bool.and_eq_true_iff.mp (List.all_eq_true.mp h i (List.mem_range.mpr hi))).2
  exact ⟨of_decide_eq_true q.1, of_decide_eq_true q.2⟩
end WR
set_option Elab.async false
set_option linter.all false
set_option maxRecDepth 100000
set_option maxHeartbeats 1000000
namespace WR
open PySem PySem.Spec PyProof.Rows L2 Evl
/-! ### _law_deck -/
def spDeck (K : PySem.W.Frag) : Sp := fun vs H Q _ => ∃ (a : Addr) (ns : List Int), vs = [.ref a] ∧ SqL K H a (ns.map V.int) ∧ ns.length ≤ 63 ∧
  ∀ p L H', H p = none → H L = none → Ex H H' → Dk H' p L ns 0 → Q (.ref p) H'
theorem scDeck : FnScope ["_law_script"] ["_law_script"] (defScope sDeck) := ⟨rfl, rfl, rfl, by decide +kernel, rfl, by decide +kernel, by decide +kernel⟩
theorem cut63 {xs : List V} (h : xs.length ≤ 63) : cutV xs none (some 63) = xs := by
  unfold cutV
  rw [show HT.sIx xs.length xs.length (some 63) = min 63 xs.length from HT.sIx_nat xs.length xs.length 63, HT.sIx_none, List.drop_zero]
  exact List.take_of_length_le (by omega)
section
variable {P : Program} {w : World} {K : PySem.W.Frag} {mg : Str → Option Value} {base : Heap}
theorem ok_deck {f : Addr} {fd : FuncData} (F : Fun K "_law_deck" "_law_deck" sDeck f fd) (m1 : mg "list" = none) : FnOk P w K mg base CX0 1 f fd ["_law_script"] (spDeck K) := by
  refine F.ok scDeck (fun vs H Q E h => ?_) (fun cdv A outer s H vs Q E hr h => ?_)
  · obtain ⟨a, ns, rfl, _⟩ := h
    rfl
  obtain ⟨a, ns, rfl, hS, hlen, q⟩ := h
  refine ⟨_, pss_one (ps_ret (pe_lst (pa_cons (pe_callTy call_list_of (by rfl) m1 (by decide +kernel) (pa_cons (pe_slice sl_list (pv 0) po_none (po_some pe_int)) pa_nil)) (pa_cons pe_int (pa_cons pe_int (pa_cons pe_int pa_nil)))))), ?_⟩
  refine ⟨.ref a, rfl, 63, rfl, a, ns.map V.int, rfl, hS, fun c nc => ?_⟩
  rw [cut63 (by rw [List.length_map]; exact hlen)]
  refine ⟨c, ns.map V.int, rfl, .inl (sq_of upd_same), fun L nL => ?_⟩
  refine ⟨by show 4 ≤ sizeLine; decide, fun p np => ?_⟩
  have e1 : Ex H (upd H c (.lst (ns.map V.int))) := Ex.new nc
  have e2 := Ex.new (o := .lst (ns.map V.int)) nL
  have e3 := Ex.new (o := DkO L 0 0 0) np
  have hp : H p = none := fresh_back (e1.trans e2) np
  refine q p L _ hp (fresh_back e1 nL) ((e1.trans e2).trans e3) ⟨0, 0, 0, ⟨upd_same, ?_, by decide, by decide, by decide, hlen⟩, by decide⟩
  exact e3 _ _ upd_same

end
end WR
set_option Elab.async false
set_option linter.all false
set_option maxRecDepth 100000
set_option maxHeartbeats 1000000
namespace WR
open PySem PySem.Spec PyProof.Rows L2 Evl
theorem nlAll_snoc {ds : List PyData} {d : PyData} (h : nlAll ds = true) (hd : nl d = true) : nlAll (ds ++ [d]) = true := by
  induction ds with
  | nil =>
    show (nl d && true) = true
    rw [hd]
    rfl
  | cons x r ih =>
    have h' : (nl x && nlAll r) = true := h
    rw [Bool.and_eq_true] at h'
    show (nl x && nlAll (r ++ [d])) = true
    rw [h'.1, ih h'.2]
    rfl
theorem nlAll_cons {ds : List PyData} {d : PyData} (hd : nl d = true) (h : nlAll ds = true) : nlAll (d :: ds) = true := by
  show (nl d && nlAll ds) = true
  rw [hd, h]
  rfl
theorem nlAll_of {ds : List PyData} (h : nlAll ds = true) : ∀ d ∈ ds, nl d = true := by
  induction ds with
  | nil => exact fun _ h => by cases h
  | cons x r ih =>
    have h' : (nl x && nlAll r) = true := h
    rw [Bool.and_eq_true] at h'
    intro d hd
    rcases List.mem_cons.mp hd with rfl | hd
    · exact h'.1
    · exact ih h'.2 d hd
theorem q_deck {K : PySem.W.Frag} {σ : L2.St} {H : Hp} {te : TE} {D : Ends} {tz : TS} {i : Nat} {a : Addr} {ns : List Int} {E : XK} (h : Ev te σ H (.ref a)) (hS : SqL K H a (ns.map V.int)) (hl : ns.length ≤ 63)
    (k : ∀ p L H1, H p = none → H L = none → Ex H H1 → Dk H1 p L ns 0 → tz D (σ.set i (some (.ref p))) H1) : tSeq (tAsg (tCall (spDeck K) [] E (tCons te tNil)) (gName i)) tz D σ H :=
  h H (Ex.refl H) _ fun H1 e1 => ⟨a, ns, rfl, ex_l e1 hS, hl, fun p L H2 hp hL e2 hD => k p L H2 (fresh_back e1 hp) (fresh_back e1 hL) (e1.trans e2) hD⟩
theorem q_draw {σ : L2.St} {H : Hp} {te tb : TE} {D : Ends} {tz : TS} {i : Nat} {p L : Addr} {ns : List Int} {c m N : Int} {E : XK} (h : Ev te σ H (.ref p)) (hm : Ev tb σ H (.int m)) (hD : Dk H p L ns N) (hN : N ≤ 1000000000) (h1 : 1 ≤ m) (h2 : m ≤ 1000000000)
    (k : ∀ r H1, 0 ≤ r → r < m → Ex (rem H p) H1 → Dk H1 p L ns (N + 1) → tz D (σ.set i (some (.int (c + r)))) H1) : tSeq (tAsg (tOp (rI0 fun i j => .int (i + j)) (tC (.int c)) (tCall spDraw [] E (tCons te (tCons tb tNil)))) (gName i)) tz D σ H :=
  h H (Ex.refl H) _ fun H1 e1 => hm H1 e1 _ fun H2 e2 => ⟨p, L, ns, m, N, rfl, hD.ex (e1.trans e2), hN, h1, h2, fun r H3 hr0 hr1 e3 hD3 => ⟨c, r, rfl, rfl, k r H3 hr0 hr1 ((rem_mono (e1.trans e2)).trans e3) hD3⟩⟩
end WR
set_option Elab.async false
set_option linter.all false
set_option maxRecDepth 100000
set_option maxHeartbeats 1000000
namespace WR
open PySem PySem.Spec PyProof.Rows L2 Evl
/-! ### webs as data -/
def natD (k : Nat) : PyData := .int (k : Int)
def kidsD (ks : List Nat) : PyData := .tuple (ks.map natD)
def webD (l : Nat) (inner : List (List Nat)) : PyData := .tuple [natD l, .tuple (inner.map kidsD)]
/-- leaves and items in their bounds -/
structure Raw (l : Nat) (inner : List (List Nat)) : Prop where
  l1 : 1 ≤ l
  l8 : l ≤ 8
  n20 : inner.length ≤ 20
  lt : ∀ j ks, inner[j]? = some ks → ∀ k ∈ ks, k < l + j
  len : ∀ ks ∈ inner, ks.length ≤ 30
/-- a promise of a def of a web -/
def spW (K : PySem.W.Frag) (g : Nat → List (List Nat) → PyData) : Sp := fun vs H Q _ =>
  ∃ v l inner, vs = [v] ∧ Dp K H v (webD l inner) ∧ Raw l inner ∧ ∀ r H', Ex H H' → Dp K H' r (g l inner) → Q r H'
/-- of a web and a kind -/
def spWK (K : PySem.W.Frag) (g : Nat → List (List Nat) → Nat → PyData) : Sp := fun vs H Q _ =>
  ∃ v l inner k, vs = [v, .int ((k : Nat) : Int)] ∧ Dp K H v (webD l inner) ∧ Raw l inner ∧ k < l + inner.length ∧ ∀ r H', Ex H H' → Dp K H' r (g l inner k) → Q r H'
theorem spW_len {K : PySem.W.Frag} {g : Nat → List (List Nat) → PyData} {vs : List V} {H : Hp} {Q : VK} {E : XK} (h : spW K g vs H Q E) : vs.length = 1 := by
  obtain ⟨v, l, inner, rfl, _⟩ := h
  rfl
theorem spWK_len {K : PySem.W.Frag} {g : Nat → List (List Nat) → Nat → PyData} {vs : List V} {H : Hp} {Q : VK} {E : XK} (h : spWK K g vs H Q E) : vs.length = 2 := by
  obtain ⟨v, l, inner, k, rfl, _⟩ := h
  rfl
section
variable {K : PySem.W.Frag} {σ : L2.St} {H H' : Hp} {ta tb te tx : TE} {D : Ends} {tu tw tz : TS} {l : Nat} {inner : List (List Nat)} {k : Nat}
theorem ed_callW {g : Nat → List (List Nat) → PyData} {E : XK} (h : EvD K te σ H (webD l inner)) (hw : Raw l inner) : EvD K (tCall (spW K g) [] E (tCons te tNil)) σ H (g l inner) := fun H1 e Q q =>
  h H1 e _ fun v H2 e2 hv => ⟨v, l, inner, rfl, hv, hw, fun r H3 e3 hr => q r H3 (e2.trans e3) hr⟩
theorem ed_callWK {g : Nat → List (List Nat) → Nat → PyData} {E : XK} (h : EvD K te σ H (webD l inner)) (hk : EvD K tx σ H (natD k)) (hw : Raw l inner) (hlt : k < l + inner.length) :
    EvD K (tCall (spWK K g) [] E (tCons te (tCons tx tNil))) σ H (g l inner k) := fun H1 e Q q =>
  h H1 e _ fun v H2 e2 hv => hk H2 (e.trans e2) _ fun w H3 e3 hw' => by
    cases dp_int hw'
    exact ⟨v, l, inner, k, rfl, dp_ex e3 _ hv, hw, hlt, fun r H4 e4 hr => q r H4 ((e2.trans e3).trans e4) hr⟩
end
def topN (l : Nat) (inner : List (List Nat)) : Nat := l + inner.length - 1
def kidsAt (l : Nat) (inner : List (List Nat)) (k : Nat) : List Nat := if k < l then [] else inner.getD (k - l) []
end WR
set_option Elab.async false
set_option linter.all false
set_option maxRecDepth 100000
set_option maxHeartbeats 1000000
namespace WR
open PySem PySem.Spec PyProof.Rows L2 Evl
/-! ### how many parents each kind has -/
def bump (cs : List Int) (k : Nat) : List Int := cs.set k (cs.getD k 0 + 1)
def bumpAll (cs : List Int) (ks : List Nat) : List Int := ks.foldl bump cs
def cntF (n : Nat) (inner : List (List Nat)) : List Int := inner.foldl bumpAll (List.replicate n 0)
theorem bump_len (cs : List Int) (k : Nat) : (bump cs k).length = cs.length := by unfold bump; rw [List.length_set]
theorem bumpAll_len : ∀ (ks : List Nat) (cs : List Int), (bumpAll cs ks).length = cs.length
  | [], _ => rfl
  | k :: ks, cs => by
    show (bumpAll (bump cs k) ks).length = _
    rw [bumpAll_len ks, bump_len]
theorem foldl_bump_len : ∀ (inner : List (List Nat)) (cs : List Int), (inner.foldl bumpAll cs).length = cs.length
  | [], _ => rfl
  | ks :: inner, cs => by
    show (inner.foldl bumpAll (bumpAll cs ks)).length = _
    rw [foldl_bump_len inner, bumpAll_len]
theorem cntF_len (n : Nat) (inner : List (List Nat)) : (cntF n inner).length = n := by
  unfold cntF
  rw [foldl_bump_len, List.length_replicate]
theorem cntF_take {n i : Nat} {inner : List (List Nat)} {ks : List Nat} (h : inner[i]? = some ks) : cntF n (inner.take (i + 1)) = bumpAll (cntF n (inner.take i)) ks := by
  unfold cntF
  rw [List.take_add_one, h, List.foldl_append]
  rfl
theorem bumpAll_take {cs : List Int} {ks : List Nat} {j k : Nat} (h : ks[j]? = some k) : bumpAll cs (ks.take (j + 1)) = bump (bumpAll cs (ks.take j)) k := by
  unfold bumpAll
  rw [List.take_add_one, h, List.foldl_append]
  rfl
/-- of each kind of a web -/
def cnts (l : Nat) (inner : List (List Nat)) : List Int := cntF (l + inner.length) inner
theorem fm_rng {f : PyData → Option PyData} {g : Nat → PyData} {lo : Int} {n : Nat} (h : ∀ k : Nat, k < n → f (.int (lo + (k : Int))) = some (g k)) : (rngD lo n).filterMap f = (List.range n).map g := by
  unfold rngD
  rw [List.filterMap_map]
  exact fm_map fun k hk => h k (List.mem_range.mp hk)
end WR
set_option linter.all false
/-! ### webs as they are drawn: kinds by number, their children in any order -/
namespace WR
def cnt (K : Nat → List Nat) (k : Nat) : Nat → Nat
  | 0 => 0
  | n + 1 => cnt K k n + (if k ∈ K n then 1 else 0)
def setK (K : Nat → List Nat) (u : Nat) (ks : List Nat) : Nat → List Nat := fun x => if x = u then ks else K x
theorem setK_same {K : Nat → List Nat} {u : Nat} {ks : List Nat} : setK K u ks u = ks := if_pos rfl
theorem setK_ne {K : Nat → List Nat} {u x : Nat} {ks : List Nat} (h : x ≠ u) : setK K u ks x = K x := if_neg h
theorem cnt_ge {K : Nat → List Nat} {u k : Nat} {ks : List Nat} : ∀ {n : Nat}, n ≤ u → cnt (setK K u ks) k n = cnt K k n
  | 0, _ => rfl
  | n + 1, h => by
    show cnt (setK K u ks) k n + _ = cnt K k n + _
    rw [cnt_ge (by omega), setK_ne (show n ≠ u by omega)]
theorem cnt_set {K : Nat → List Nat} {u k : Nat} {ks : List Nat} : ∀ {n : Nat}, u < n → cnt (setK K u ks) k n + (if k ∈ K u then 1 else 0) = cnt K k n + (if k ∈ ks then 1 else 0)
  | n + 1, h => by
    show (cnt (setK K u ks) k n + _) + _ = (cnt K k n + _) + _
    by_cases e : u = n
    · subst e
      rw [cnt_ge (Nat.le_refl _), setK_same]
      omega
    · rw [setK_ne (show n ≠ u by omega)]
      have ih := cnt_set (K := K) (k := k) (ks := ks) (show u < n by omega)
      omega
theorem cnt_out {K : Nat → List Nat} {k : Nat} : ∀ {n : Nat}, (∀ u, u < n → k ∉ K u) → cnt K k n = 0
  | 0, _ => rfl
  | n + 1, h => by
    show cnt K k n + _ = 0
    rw [cnt_out fun u hu => h u (by omega), if_neg (h n (by omega))]
theorem cnt_pos {K : Nat → List Nat} {u k : Nat} : ∀ {n : Nat}, u < n → k ∈ K u → 1 ≤ cnt K k n
  | n + 1, h, hk => by
    show 1 ≤ cnt K k n + _
    by_cases e : u = n
    · subst e
      rw [if_pos hk]
      omega
    · have := cnt_pos (show u < n by omega) hk
      omega
/-- two parents are two -/
theorem cnt_two {K : Nat → List Nat} {u v k : Nat} : ∀ {n : Nat}, u < v → v < n → k ∈ K u → k ∈ K v → 2 ≤ cnt K k n
  | n + 1, h, hv, hk, hl => by
    show 2 ≤ cnt K k n + _
    by_cases e : v = n
    · subst e
      rw [if_pos hl]
      have := cnt_pos h hk
      omega
    · have := cnt_two h (show v < n by omega) hk hl
      omega
theorem cnt_one {K : Nat → List Nat} {u v k n : Nat} (h : cnt K k n ≤ 1) (hu : u < n) (hv : v < n) (hk : k ∈ K u) (hl : k ∈ K v) : u = v := by
  rcases Nat.lt_trichotomy u v with z | z | z
  · have := cnt_two z hv hk hl
    omega
  · exact z
  · have := cnt_two z hu hl hk
    omega
theorem cnt_ex {K : Nat → List Nat} {k : Nat} : ∀ {n : Nat}, 1 ≤ cnt K k n → ∃ u, u < n ∧ k ∈ K u
  | n + 1, h => by
    have h' : 1 ≤ cnt K k n + (if k ∈ K n then 1 else 0) := h
    by_cases e : k ∈ K n
    · exact ⟨n, by omega, e⟩
    · rw [if_neg e] at h'
      obtain ⟨u, h1, h2⟩ := cnt_ex (show 1 ≤ cnt K k n by omega)
      exact ⟨u, by omega, h2⟩
/-- b in a's place -/
def rep (a b : Nat) (ks : List Nat) : List Nat := ks.map fun x => if x = a then b else x
theorem rep_len {a b : Nat} {ks : List Nat} : (rep a b ks).length = ks.length := List.length_map ..
theorem rep_mem {a b k : Nat} {ks : List Nat} (ha : a ∈ ks) : k ∈ rep a b ks ↔ k = b ∨ (k ∈ ks ∧ k ≠ a) := by
  unfold rep
  rw [List.mem_map]
  constructor
  · rintro ⟨x, hx, e⟩
    by_cases z : x = a
    · rw [if_pos z] at e
      exact .inl e.symm
    · rw [if_neg z] at e
      subst e
      exact .inr ⟨hx, z⟩
  · rintro (rfl | ⟨h1, h2⟩)
    · exact ⟨a, ha, if_pos rfl⟩
    · exact ⟨k, h1, if_neg h2⟩
theorem rep_nd {a b : Nat} : ∀ {ks : List Nat}, ks.Nodup → b ∉ ks → (rep a b ks).Nodup
  | [], _, _ => List.nodup_nil
  | x :: r, h, hb => by
    rw [List.nodup_cons] at h
    rw [List.mem_cons, not_or] at hb
    show ((if x = a then b else x) :: rep a b r).Nodup
    rw [List.nodup_cons]
    refine ⟨fun hm => ?_, rep_nd h.2 hb.2⟩
    unfold rep at hm
    obtain ⟨y, hy, e⟩ := List.mem_map.mp hm
    by_cases hx : x = a
    · rw [if_pos hx] at e
      by_cases hya : y = a
      · exact h.1 (by rw [hx, ← hya]; exact hy)
      · rw [if_neg hya] at e
        exact hb.2 (e ▸ hy)
    · rw [if_neg hx] at e
      by_cases hya : y = a
      · rw [if_pos hya] at e
        exact hb.1 e
      · rw [if_neg hya] at e
        exact h.1 (e ▸ hy)

/-- a web as drawn; x: a mixing whose second parent is still to come -/
structure GenX (L n : Nat) (K : Nat → List Nat) (x : Nat) : Prop where
  l1 : 1 ≤ L
  ln : L ≤ n
  out : ∀ u, n ≤ u → K u = []
  leaf : ∀ u, u < L → K u = []
  lt : ∀ u c, c ∈ K u → c < n
  nd : ∀ u, (K u).Nodup
  rk : ∃ r : Nat → Nat, ∀ u c, c ∈ K u → r c < r u
  one : ∀ u, L ≤ u → u < n → u ≠ x → cnt K u n ≤ 1 → 2 ≤ (K u).length
  mix : ∀ u, 2 ≤ cnt K u n → (K u).length = 1
  lf1 : ∀ u, u < L → cnt K u n ≤ 1
  bare : ∀ u, L ≤ u → u < n → ∃ c ∈ K u, cnt K c n ≤ 1 ∧ c ≠ x
  root : ∃ t, t < n ∧ ∀ k, k < n → (cnt K k n = 0 ↔ k = t)
/-- x is a kind with one child and a parent -/
structure Lone (L n : Nat) (K : Nat → List Nat) (x : Nat) : Prop where
  lx : L ≤ x
  xn : x < n
  len : (K x).length = 1
  up : 1 ≤ cnt K x n
/-- the whole one: no kind waits -/
def Gen (L n : Nat) (K : Nat → List Nat) : Prop := GenX L n K n
theorem Gen.at {L n : Nat} {K : Nat → List Nat} (g : Gen L n K) {x : Nat} (h2 : 2 ≤ cnt K x n) : GenX L n K x :=
  ⟨g.l1, g.ln, g.out, g.leaf, g.lt, g.nd, g.rk, fun u h1 h3 _ h4 => g.one u h1 h3 (by omega) h4, g.mix, g.lf1,
    fun u h1 h3 => by
      obtain ⟨c, a, b, _⟩ := g.bare u h1 h3
      exact ⟨c, a, b, fun z => by subst z; omega⟩, g.root⟩
/-- closed downwards -/
def Shut (K : Nat → List Nat) (D : Nat → Prop) : Prop := ∀ u c, D u → c ∈ K u → D c

/-- a kind x waiting for a parent (or with two of them already) gets one more -/
theorem gen_more {L n : Nat} {K : Nat → List Nat} {x high : Nat} {D : Nat → Prop} (g : GenX L n K x) (lx : Lone L n K x) (hh : L ≤ high) (hn : high < n) (hp : cnt K high n ≤ 1) (hx : high ≠ x) (hnot : x ∉ K high)
    (hD : Shut K D) (hDx : D x) (hDh : ¬ D high) : Gen L n (setK K high (K high ++ [x])) := by
  have hc : ∀ k, cnt (setK K high (K high ++ [x])) k n = cnt K k n + (if k = x then 1 else 0) := fun k => by
    have q := cnt_set (K := K) (k := k) (ks := K high ++ [x]) hn
    by_cases e : k = x
    · subst e
      rw [if_neg hnot, if_pos (show k ∈ K high ++ [k] by simp)] at q
      rw [if_pos rfl]
      omega
    · have : (k ∈ K high ++ [x]) ↔ k ∈ K high := by simp [e]
      simp only [this] at q
      rw [if_neg e]
      omega
  have mem : ∀ u c, c ∈ setK K high (K high ++ [x]) u → c ∈ K u ∨ (u = high ∧ c = x) := fun u c h => by
    by_cases e : u = high
    · subst e
      rw [setK_same] at h
      rcases List.mem_append.mp h with h | h
      · exact .inl h
      · exact .inr ⟨rfl, by simpa using h⟩
    · rw [setK_ne e] at h
      exact .inl h
  refine ⟨g.l1, g.ln, fun u hu => ?_, fun u hu => ?_, fun u c h => ?_, fun u => ?_, ?_, fun u h1 h2 _ h3 => ?_, fun u h2 => ?_, fun u hu => ?_, fun u h1 h2 => ?_, ?_⟩
  · rw [setK_ne (by omega)]
    exact g.out u hu
  · rw [setK_ne (by omega)]
    exact g.leaf u hu
  · rcases mem u c h with h | ⟨_, rfl⟩
    · exact g.lt u c h
    · exact lx.xn
  · by_cases e : u = high
    · subst e
      rw [setK_same, List.nodup_append]
      refine ⟨g.nd u, by simp, fun a ha b hb => ?_⟩
      have : b = x := by simpa using hb
      subst this
      exact fun z => hnot (z ▸ ha)
    · rw [setK_ne e]
      exact g.nd u
  · obtain ⟨r, hr⟩ := g.rk
    obtain ⟨M, hM⟩ : ∃ M, ∀ u, u < n → r u < M := by
      clear hc mem
      have key : ∀ m, ∃ M, ∀ u, u < m → r u < M := fun m => by
        induction m with
        | zero => exact ⟨0, fun u h => by omega⟩
        | succ m ih =>
          obtain ⟨M, h⟩ := ih
          refine ⟨M + r m + 1, fun u hu => ?_⟩
          by_cases e : u = m
          · subst e
            omega
          · have := h u (by omega)
            omega
      exact key n
    have Dd : ∀ u, Decidable (D u) := fun u => Classical.propDecidable _
    refine ⟨fun u => if D u then r u else M + r u, fun u c h => ?_⟩
    show (if D c then r c else M + r c) < (if D u then r u else M + r u)
    rcases mem u c h with h | ⟨rfl, rfl⟩
    · have q := hr u c h
      have qc := hM c (g.lt u c h)
      by_cases d : D u
      · rw [if_pos d, if_pos (hD u c d h)]
        exact q
      · rw [if_neg d]
        split <;> omega
    · have := hM c lx.xn
      rw [if_pos hDx, if_neg hDh]
      omega
  · rw [hc] at h3
    have hux : u ≠ x := fun z => by
      subst z
      rw [if_pos rfl] at h3
      have := lx.up
      omega
    rw [if_neg hux] at h3
    have q := g.one u h1 h2 hux (by omega)
    by_cases e : u = high
    · subst e
      rw [setK_same, List.length_append]
      omega
    · rw [setK_ne e]
      exact q
  · rw [hc] at h2
    by_cases hux : u = x
    · subst hux
      rw [setK_ne (Ne.symm hx)]
      exact lx.len
    · rw [if_neg hux] at h2
      have : u ≠ high := fun z => by
        subst z
        omega
      rw [setK_ne this]
      exact g.mix u (by omega)
  · rw [hc, if_neg (by have := lx.lx; omega)]
    exact g.lf1 u hu
  · obtain ⟨c, a, b, d⟩ := g.bare u h1 h2
    refine ⟨c, ?_, by rw [hc, if_neg d]; exact b, by have := g.lt u c a; omega⟩
    by_cases e : u = high
    · subst e
      rw [setK_same]
      exact List.mem_append_left _ a
    · rw [setK_ne e]
      exact a
  · obtain ⟨t, h1, h2⟩ := g.root
    refine ⟨t, h1, fun k hk => ?_⟩
    rw [hc]
    by_cases e : k = x
    · subst e
      rw [if_pos rfl]
      have q := h2 k hk
      have := lx.up
      constructor
      · intro z
        omega
      · intro z
        have := q.mpr z
        omega
    · rw [if_neg e]
      exact h2 k hk

theorem bound_of (r : Nat → Nat) : ∀ m : Nat, ∃ M, ∀ u, u < m → r u < M
  | 0 => ⟨0, fun u h => by omega⟩
  | m + 1 => by
    obtain ⟨M, h⟩ := bound_of r m
    refine ⟨M + r m + 1, fun u hu => ?_⟩
    by_cases e : u = m
    · subst e
      omega
    · have := h u (by omega)
      omega
/-- a new kind n between up and its child low -/
def betweenK (K : Nat → List Nat) (n up low : Nat) : Nat → List Nat := setK (setK K up (rep low n (K up))) n [low]
theorem gen_between {L n : Nat} {K : Nat → List Nat} {up low : Nat} (g : Gen L n K) (hu : up < n) (hl : low ∈ K up) (h1 : cnt K low n ≤ 1) (hb : ∃ c ∈ K up, c ≠ low ∧ cnt K c n ≤ 1) :
    GenX L (n + 1) (betweenK K n up low) n ∧ Lone L (n + 1) (betweenK K n up low) n ∧ (∀ k, k < n → cnt (betweenK K n up low) k (n + 1) = cnt K k n) ∧ (∀ D : Nat → Prop, Shut K D → D low → Shut (betweenK K n up low) fun u => D u ∨ u = n) := by
  have lown : low < n := g.lt _ _ hl
  have nup : n ∉ K up := fun z => by
    have := g.lt _ _ z
    omega
  have un : up ≠ n := by omega
  have upL : L ≤ up := by
    rcases Nat.lt_or_ge up L with z | z
    · rw [g.leaf up z] at hl
      cases hl
    · exact z
  have Kn : betweenK K n up low n = [low] := setK_same
  have Ku : betweenK K n up low up = rep low n (K up) := by
    unfold betweenK
    rw [setK_ne un, setK_same]
  have Ko : ∀ u, u ≠ n → u ≠ up → betweenK K n up low u = K u := fun u a b => by
    unfold betweenK
    rw [setK_ne a, setK_ne b]
  have c0 : cnt K n n = 0 := cnt_out fun u _ z => by
    have := g.lt _ _ z
    omega
  have hc : ∀ k, cnt (betweenK K n up low) k (n + 1) = if k = n then 1 else cnt K k n := fun k => by
    show cnt (betweenK K n up low) k n + (if k ∈ betweenK K n up low n then 1 else 0) = _
    rw [Kn]
    unfold betweenK
    rw [cnt_ge (Nat.le_refl n)]
    have q := cnt_set (K := K) (k := k) (ks := rep low n (K up)) hu
    simp only [rep_mem hl] at q
    by_cases e : k = n
    · subst e
      rw [if_pos rfl, if_neg (show k ∉ [low] by simp; omega)]
      rw [if_neg nup, if_pos (.inl rfl)] at q
      omega
    · rw [if_neg e]
      by_cases z : k = low
      · subst z
        rw [if_pos hl, if_neg (by simp [e])] at q
        rw [if_pos (by simp)]
        omega
      · rw [if_neg (show k ∉ [low] by simp [z])]
        have : (k = n ∨ (k ∈ K up ∧ k ≠ low)) ↔ k ∈ K up := by simp [e, z]
        simp only [this] at q
        omega
  have hck : ∀ k, k ≠ n → cnt (betweenK K n up low) k (n + 1) = cnt K k n := fun k e => by rw [hc, if_neg e]
  have mem : ∀ u c, c ∈ betweenK K n up low u → (u = n ∧ c = low) ∨ (u = up ∧ c = n) ∨ (u ≠ n ∧ c ∈ K u) := fun u c h => by
    by_cases e : u = n
    · subst e
      rw [Kn] at h
      exact .inl ⟨rfl, by simpa using h⟩
    · by_cases z : u = up
      · subst z
        rw [Ku, rep_mem hl] at h
        rcases h with h | ⟨h, _⟩
        · exact .inr (.inl ⟨rfl, h⟩)
        · exact .inr (.inr ⟨e, h⟩)
      · rw [Ko u e z] at h
        exact .inr (.inr ⟨e, h⟩)
  have len : ∀ u, u ≠ n → (betweenK K n up low u).length = (K u).length := fun u e => by
    by_cases z : u = up
    · subst z
      rw [Ku, rep_len]
    · rw [Ko u e z]
  refine ⟨⟨g.l1, by have := g.ln; omega, fun u h => ?_, fun u h => ?_, fun u c h => ?_, fun u => ?_, ?_, fun u a b d e => ?_, fun u h => ?_, fun u h => ?_, fun u a b => ?_, ?_⟩, ⟨g.ln, by omega, by rw [Kn]; rfl, by rw [hc, if_pos rfl]; exact Nat.le_refl _⟩, fun k hk => hck k (by omega), fun D hD hDl u c a h => ?_⟩
  · rw [Ko u (by omega) (by omega)]
    exact g.out u (by omega)
  · have := g.ln
    rw [Ko u (by omega) (by omega)]
    exact g.leaf u h
  · rcases mem u c h with ⟨_, rfl⟩ | ⟨_, rfl⟩ | ⟨_, h⟩
    · omega
    · omega
    · have := g.lt u c h
      omega
  · by_cases e : u = n
    · subst e
      rw [Kn]
      simp
    · by_cases z : u = up
      · subst z
        rw [Ku]
        exact rep_nd (g.nd u) nup
      · rw [Ko u e z]
        exact g.nd u
  · obtain ⟨r, hr⟩ := g.rk
    refine ⟨fun u => if u = n then 2 * r low + 1 else 2 * r u, fun u c h => ?_⟩
    show (if c = n then 2 * r low + 1 else 2 * r c) < (if u = n then 2 * r low + 1 else 2 * r u)
    rcases mem u c h with ⟨rfl, rfl⟩ | ⟨rfl, rfl⟩ | ⟨e, h⟩
    · rw [if_pos rfl, if_neg (by omega)]
      omega
    · have := hr u low hl
      rw [if_pos rfl, if_neg un]
      omega
    · have q := hr u c h
      have := g.lt u c h
      rw [if_neg e, if_neg (by omega)]
      omega
  · rw [hck u d] at e
    rw [len u d]
    exact g.one u a (by omega) (by omega) e
  · have e : u ≠ n := fun z => by
      subst z
      rw [hc, if_pos rfl] at h
      omega
    rw [hck u e] at h
    rw [len u e]
    exact g.mix u h
  · have := g.ln
    rw [hck u (by omega)]
    exact g.lf1 u h
  · by_cases e : u = n
    · subst e
      exact ⟨low, by rw [Kn]; simp, by rw [hck low (by omega)]; exact h1, by omega⟩
    · by_cases z : u = up
      · subst z
        obtain ⟨c, p1, p2, p3⟩ := hb
        have := g.lt _ _ p1
        exact ⟨c, by rw [Ku, rep_mem hl]; exact .inr ⟨p1, p2⟩, by rw [hck c (by omega)]; exact p3, by omega⟩
      · obtain ⟨c, p1, p2, _⟩ := g.bare u a (by omega)
        have := g.lt _ _ p1
        exact ⟨c, by rw [Ko u e z]; exact p1, by rw [hck c (by omega)]; exact p2, by omega⟩
  · obtain ⟨t, a, b⟩ := g.root
    refine ⟨t, by omega, fun k hk => ?_⟩
    by_cases e : k = n
    · subst e
      rw [hc, if_pos rfl]
      constructor
      · intro z
        omega
      · intro z
        omega
    · rw [hck k e]
      exact b k (by omega)
  · rcases mem u c h with ⟨rfl, rfl⟩ | ⟨rfl, rfl⟩ | ⟨e, h⟩
    · exact .inl hDl
    · exact .inr rfl
    · rcases a with a | a
      · exact .inl (hD u c a h)
      · exact absurd a e
/-- a new kind n above s, whose parent is v, with x for its second child -/
theorem gen_above {L n : Nat} {K : Nat → List Nat} {x s v : Nat} {D : Nat → Prop} (g : GenX L n K x) (lx : Lone L n K x) (hv : v < n) (hs : s ∈ K v) (h1 : cnt K s n ≤ 1) (hsx : s ≠ x) (hD : Shut K D) (hDx : D x) (hDv : ¬ D v) :
    Gen L (n + 1) (setK (setK K v (rep s n (K v))) n [s, x]) := by
  have sn : s < n := g.lt _ _ hs
  have xn := lx.xn
  have nv : n ∉ K v := fun z => by
    have := g.lt _ _ z
    omega
  have vn : v ≠ n := by omega
  have vx : v ≠ x := fun z => hDv (z ▸ hDx)
  have vL : L ≤ v := by
    rcases Nat.lt_or_ge v L with z | z
    · rw [g.leaf v z] at hs
      cases hs
    · exact z
  let K' := setK (setK K v (rep s n (K v))) n [s, x]
  have Kn : K' n = [s, x] := setK_same
  have Kv : K' v = rep s n (K v) := by
    show setK (setK K v (rep s n (K v))) n [s, x] v = _
    rw [setK_ne vn, setK_same]
  have Ko : ∀ u, u ≠ n → u ≠ v → K' u = K u := fun u a b => by
    show setK (setK K v (rep s n (K v))) n [s, x] u = _
    rw [setK_ne a, setK_ne b]
  have c0 : cnt K n n = 0 := cnt_out fun u _ z => by
    have := g.lt _ _ z
    omega
  have hc : ∀ k, cnt K' k (n + 1) = if k = n then 1 else if k = x then cnt K x n + 1 else cnt K k n := fun k => by
    show cnt K' k n + (if k ∈ K' n then 1 else 0) = _
    rw [Kn]
    show cnt (setK (setK K v (rep s n (K v))) n [s, x]) k n + _ = _
    rw [cnt_ge (Nat.le_refl n)]
    have q := cnt_set (K := K) (k := k) (ks := rep s n (K v)) hv
    simp only [rep_mem hs] at q
    by_cases e : k = n
    · subst e
      rw [if_pos rfl, if_neg (show k ∉ [s, x] by simp; omega)]
      rw [if_neg nv, if_pos (.inl rfl)] at q
      omega
    · rw [if_neg e]
      by_cases z : k = s
      · subst z
        rw [if_pos hs, if_neg (by simp [e])] at q
        rw [if_pos (by simp), if_neg hsx]
        omega
      · have : (k = n ∨ (k ∈ K v ∧ k ≠ s)) ↔ k ∈ K v := by simp [e, z]
        simp only [this] at q
        by_cases y : k = x
        · subst y
          rw [if_pos (by simp), if_pos rfl]
          omega
        · rw [if_neg (show k ∉ [s, x] by simp [z, y]), if_neg y]
          omega
  have hcn : cnt K' n (n + 1) = 1 := by rw [hc, if_pos rfl]
  have hcx : cnt K' x (n + 1) = cnt K x n + 1 := by rw [hc, if_neg (by omega), if_pos rfl]
  have hck : ∀ k, k ≠ n → k ≠ x → cnt K' k (n + 1) = cnt K k n := fun k a b => by rw [hc, if_neg a, if_neg b]
  have mem : ∀ u c, c ∈ K' u → (u = n ∧ c = s) ∨ (u = n ∧ c = x) ∨ (u = v ∧ c = n) ∨ (u ≠ n ∧ c ∈ K u) := fun u c h => by
    by_cases e : u = n
    · subst e
      rw [Kn] at h
      have : c = s ∨ c = x := by simpa using h
      rcases this with h | h
      · exact .inl ⟨rfl, h⟩
      · exact .inr (.inl ⟨rfl, h⟩)
    · by_cases z : u = v
      · subst z
        rw [Kv, rep_mem hs] at h
        rcases h with h | ⟨h, _⟩
        · exact .inr (.inr (.inl ⟨rfl, h⟩))
        · exact .inr (.inr (.inr ⟨e, h⟩))
      · rw [Ko u e z] at h
        exact .inr (.inr (.inr ⟨e, h⟩))
  have len : ∀ u, u ≠ n → (K' u).length = (K u).length := fun u e => by
    by_cases z : u = v
    · subst z
      rw [Kv, rep_len]
    · rw [Ko u e z]
  show GenX L (n + 1) K' (n + 1)
  refine ⟨g.l1, by have := g.ln; omega, fun u h => ?_, fun u h => ?_, fun u c h => ?_, fun u => ?_, ?_, fun u a b _ e => ?_, fun u h => ?_, fun u h => ?_, fun u a b => ?_, ?_⟩
  · rw [Ko u (by omega) (by omega)]
    exact g.out u (by omega)
  · have := g.ln
    rw [Ko u (by omega) (by omega)]
    exact g.leaf u h
  · rcases mem u c h with ⟨_, rfl⟩ | ⟨_, rfl⟩ | ⟨_, rfl⟩ | ⟨_, h⟩
    · omega
    · omega
    · omega
    · have := g.lt u c h
      omega
  · by_cases e : u = n
    · subst e
      rw [Kn]
      simp [hsx]
    · by_cases z : u = v
      · subst z
        rw [Kv]
        exact rep_nd (g.nd u) nv
      · rw [Ko u e z]
        exact g.nd u
  · obtain ⟨r, hr⟩ := g.rk
    obtain ⟨M, hM⟩ := bound_of (fun u => 2 * r u) n
    have Dd : ∀ u, Decidable (D u) := fun u => Classical.propDecidable _
    let r' : Nat → Nat := fun u => if u = n then (if D s then M + 1 else M + 2 + 2 * r s + 1) else if D u then 2 * r u else M + 2 + 2 * r u
    have ro : ∀ u, u ≠ n → r' u = if D u then 2 * r u else M + 2 + 2 * r u := fun u e => if_neg e
    have rn : r' n = if D s then M + 1 else M + 2 + 2 * r s + 1 := if_pos rfl
    have hMs : 2 * r s < M := hM s sn
    have hMx : 2 * r x < M := hM x xn
    refine ⟨r', fun u c h => ?_⟩
    rcases mem u c h with ⟨rfl, rfl⟩ | ⟨rfl, rfl⟩ | ⟨rfl, rfl⟩ | ⟨e, h⟩
    · rw [rn, ro c (by omega)]
      by_cases d : D c
      · rw [if_pos d, if_pos d]
        omega
      · rw [if_neg d, if_neg d]
        omega
    · rw [rn, ro c (by omega), if_pos hDx]
      split <;> omega
    · have := hr u s hs
      rw [rn, ro u vn, if_neg hDv]
      split <;> omega
    · have q := hr u c h
      have cn := g.lt u c h
      have hMc : 2 * r c < M := hM c cn
      rw [ro u e, ro c (by omega)]
      by_cases d : D u
      · rw [if_pos d, if_pos (hD u c d h)]
        omega
      · rw [if_neg d]
        split <;> omega
  · by_cases z : u = n
    · subst z
      rw [Kn]
      exact Nat.le_refl 2
    · have y : u ≠ x := fun y => by
        subst y
        rw [hcx] at e
        have := lx.up
        omega
      rw [hck u z y] at e
      rw [len u z]
      exact g.one u a (by omega) y e
  · have z : u ≠ n := fun z => by
      subst z
      rw [hcn] at h
      omega
    rw [len u z]
    by_cases y : u = x
    · subst y
      exact lx.len
    · rw [hck u z y] at h
      exact g.mix u h
  · have := g.ln
    have := lx.lx
    rw [hck u (by omega) (by omega)]
    exact g.lf1 u h
  · by_cases z : u = n
    · subst z
      exact ⟨s, by rw [Kn]; simp, by rw [hck s (by omega) hsx]; exact h1, by omega⟩
    · obtain ⟨c, p1, p2, p3⟩ := g.bare u a (by omega)
      have cn := g.lt _ _ p1
      by_cases y : u = v
      · subst y
        by_cases cs : c = s
        · subst cs
          exact ⟨n, by rw [Kv, rep_mem hs]; exact .inl rfl, by rw [hcn]; exact Nat.le_refl _, by omega⟩
        · exact ⟨c, by rw [Kv, rep_mem hs]; exact .inr ⟨p1, cs⟩, by rw [hck c (by omega) p3]; exact p2, by omega⟩
      · exact ⟨c, by rw [Ko u z y]; exact p1, by rw [hck c (by omega) p3]; exact p2, by omega⟩
  · obtain ⟨t, a, b⟩ := g.root
    refine ⟨t, by omega, fun k hk => ?_⟩
    by_cases z : k = n
    · subst z
      rw [hcn]
      constructor
      · intro z
        omega
      · intro z
        omega
    · by_cases y : k = x
      · subst y
        have q := b k lx.xn
        have := lx.up
        rw [hcx]
        constructor
        · intro z
          omega
        · intro z
          have := q.mpr z
          omega
      · rw [hck k z y]
        exact b k (by omega)
/-- a new root n above the root s -/
theorem gen_top {L n : Nat} {K : Nat → List Nat} {x s : Nat} (g : GenX L n K x) (lx : Lone L n K x) (hs : s < n) (h0 : cnt K s n = 0) : Gen L (n + 1) (setK K n [s, x]) := by
  have xn := lx.xn
  have hsx : s ≠ x := fun z => by
    have := lx.up
    subst z
    omega
  let K' := setK K n [s, x]
  have Kn : K' n = [s, x] := setK_same
  have Ko : ∀ u, u ≠ n → K' u = K u := fun u a => setK_ne a
  have c0 : cnt K n n = 0 := cnt_out fun u _ z => by
    have := g.lt _ _ z
    omega
  have hc : ∀ k, cnt K' k (n + 1) = if k = s then 1 else if k = x then cnt K x n + 1 else cnt K k n := fun k => by
    show cnt (setK K n [s, x]) k n + (if k ∈ K' n then 1 else 0) = _
    rw [cnt_ge (Nat.le_refl n), Kn]
    by_cases z : k = s
    · subst z
      rw [if_pos (by simp), if_pos rfl]
      omega
    · by_cases y : k = x
      · subst y
        rw [if_pos (by simp), if_neg z, if_pos rfl]
      · rw [if_neg (show k ∉ [s, x] by simp [z, y]), if_neg z, if_neg y]
        rfl
  have hcs : cnt K' s (n + 1) = 1 := by rw [hc, if_pos rfl]
  have hcx : cnt K' x (n + 1) = cnt K x n + 1 := by rw [hc, if_neg (Ne.symm hsx), if_pos rfl]
  have hck : ∀ k, k ≠ s → k ≠ x → cnt K' k (n + 1) = cnt K k n := fun k a b => by rw [hc, if_neg a, if_neg b]
  have hcn : cnt K' n (n + 1) = 0 := by rw [hck n (by omega) (by omega)]; exact c0
  have mem : ∀ u c, c ∈ K' u → (u = n ∧ (c = s ∨ c = x)) ∨ (u ≠ n ∧ c ∈ K u) := fun u c h => by
    by_cases e : u = n
    · subst e
      rw [Kn] at h
      exact .inl ⟨rfl, by simpa using h⟩
    · rw [Ko u e] at h
      exact .inr ⟨e, h⟩
  have le1 : ∀ k, k ≠ x → cnt K k n ≤ 1 → cnt K' k (n + 1) ≤ 1 := fun k y h => by
    by_cases z : k = s
    · subst z
      rw [hcs]
      exact Nat.le_refl _
    · rw [hck k z y]
      exact h
  show GenX L (n + 1) K' (n + 1)
  refine ⟨g.l1, by have := g.ln; omega, fun u h => ?_, fun u h => ?_, fun u c h => ?_, fun u => ?_, ?_, fun u a b _ e => ?_, fun u h => ?_, fun u h => ?_, fun u a b => ?_, ?_⟩
  · rw [Ko u (by omega)]
    exact g.out u (by omega)
  · have := g.ln
    rw [Ko u (by omega)]
    exact g.leaf u h
  · rcases mem u c h with ⟨_, rfl | rfl⟩ | ⟨_, h⟩
    · omega
    · omega
    · have := g.lt u c h
      omega
  · by_cases e : u = n
    · subst e
      rw [Kn]
      simp [hsx]
    · rw [Ko u e]
      exact g.nd u
  · obtain ⟨r, hr⟩ := g.rk
    obtain ⟨M, hM⟩ := bound_of r n
    refine ⟨fun u => if u = n then M else r u, fun u c h => ?_⟩
    show (if c = n then M else r c) < (if u = n then M else r u)
    rcases mem u c h with ⟨rfl, h⟩ | ⟨e, h⟩
    · have cn : c < u := by omega
      rw [if_pos rfl, if_neg (by omega)]
      exact hM c cn
    · have := g.lt u c h
      rw [if_neg e, if_neg (by omega)]
      exact hr u c h
  · by_cases z : u = n
    · subst z
      rw [Kn]
      exact Nat.le_refl 2
    · have y : u ≠ x := fun y => by
        subst y
        rw [hcx] at e
        have := lx.up
        omega
      rw [Ko u z]
      refine g.one u a (by omega) y ?_
      by_cases w : u = s
      · subst w
        omega
      · rw [hck u w y] at e
        exact e
  · have z : u ≠ n := fun z => by
      subst z
      rw [hcn] at h
      omega
    rw [Ko u z]
    by_cases y : u = x
    · subst y
      exact lx.len
    · have w : u ≠ s := fun w => by
        subst w
        rw [hcs] at h
        omega
      rw [hck u w y] at h
      exact g.mix u h
  · have := g.ln
    have := lx.lx
    exact le1 u (by omega) (g.lf1 u h)
  · by_cases z : u = n
    · subst z
      exact ⟨s, by rw [Kn]; simp, by rw [hcs]; exact Nat.le_refl _, by omega⟩
    · obtain ⟨c, p1, p2, p3⟩ := g.bare u a (by omega)
      have cn := g.lt _ _ p1
      exact ⟨c, by rw [Ko u z]; exact p1, le1 c p3 p2, by omega⟩
  · obtain ⟨t, a, b⟩ := g.root
    have hst : s = t := (b s hs).mp h0
    refine ⟨n, by omega, fun k hk => ?_⟩
    by_cases z : k = n
    · subst z
      exact ⟨fun _ => rfl, fun _ => hcn⟩
    · refine ⟨fun h => ?_, fun h => absurd h z⟩
      exfalso
      by_cases w : k = s
      · subst w
        omega
      · by_cases y : k = x
        · subst y
          omega
        · rw [hck k w y] at h
          exact w (hst ▸ (b k (by omega)).mp h)
end WR
set_option Elab.async false
set_option linter.all false
set_option maxRecDepth 100000
set_option maxHeartbeats 1000000
namespace WR
open PySem PySem.Spec PyProof.Rows L2 Evl

/-! ### lists of lists that change -/
def nV (k : Nat) : V := .int (k : Int)
def nVs (ks : List Nat) : List V := ks.map nV
def natDs (ks : List Nat) : List PyData := ks.map natD
structure KdAt (H : Hp) (p : Addr) (rs : List Addr) (kk : List (List Nat)) : Prop where
  at_ : H p = some (.lst (rs.map V.ref))
  len : rs.length = kk.length
  nd : rs.Nodup
  np : p ∉ rs
  row : ∀ (i : Nat) r ks, rs[i]? = some r → kk[i]? = some ks → H r = some (.lst (nVs ks))
theorem KdAt.ex {H H' : Hp} {p : Addr} {rs : List Addr} {kk : List (List Nat)} (h : KdAt H p rs kk) (e : Ex H H') : KdAt H' p rs kk :=
  ⟨e _ _ h.at_, h.len, h.nd, h.np, fun i r ks a b => e _ _ (h.row i r ks a b)⟩
/-- the sizes are small -/
def Sml (kk : List (List Nat)) : Prop := kk.length ≤ 40 ∧ ∀ ks ∈ kk, ks.length ≤ 40
theorem dpAll_nat {K : PySem.W.Frag} {H : Hp} : ∀ ks : List Nat, DpAll K H (nVs ks) (natDs ks)
  | [] => .nil
  | _ :: ks => .cons (.int _) (dpAll_nat ks)
theorem nats_of {K : PySem.W.Frag} {H : Hp} : ∀ {vs : List V} {ks : List Nat}, DpAll K H vs (natDs ks) → vs = nVs ks
  | _, [], h => by cases h; rfl
  | _, _ :: ks, h => by
    cases h with
    | cons a b => cases a; rw [nats_of b]; rfl
theorem inV_nat {k : Nat} : ∀ {ks : List Nat}, inV (nV k) (nVs ks) = decide (k ∈ ks)
  | [] => rfl
  | x :: ks => by
    show (eqV (nV x) (nV k) || inV (nV k) (nVs ks)) = _
    rw [inV_nat]
    show (((x : Int) == (k : Int)) || decide (k ∈ ks)) = _
    by_cases e : x = k
    · subst e
      simp
    · have : ((x : Int) == (k : Int)) = false := beq_eq_false_iff_ne.mpr (by omega)
      rw [this, Bool.false_or]
      simp [Ne.symm e]
theorem flat_nVs : ∀ ks : List Nat, (nVs ks).all flatV = true
  | [] => rfl
  | _ :: ks => by
    show (true && (nVs ks).all flatV) = true
    rw [flat_nVs ks]
    rfl
theorem nVs_at {ks : List Nat} {i k : Nat} (h : ks[i]? = some k) : (nVs ks)[i]? = some (nV k) := by
  unfold nVs
  rw [List.getElem?_map, h]
  rfl
section
variable {K : PySem.W.Frag} {σ : L2.St} {H H' : Hp} {ta tb te tx : TE} {p : Addr} {rs : List Addr} {kk : List (List Nat)}
theorem KdAt.get (h : KdAt H p rs kk) {i : Nat} {ks : List Nat} (hi : kk[i]? = some ks) : ∃ r, rs[i]? = some r ∧ H r = some (.lst (nVs ks)) := by
  have hl := (List.getElem?_eq_some_iff.mp hi).1
  have hr : rs[i]? = some (rs[i]'(by rw [h.len]; exact hl)) := List.getElem?_eq_getElem _
  exact ⟨_, hr, h.row i _ ks hr hi⟩
/-- kids[i] -/
theorem ev_row (h : KdAt H p rs kk) {i : Nat} {r : Addr} (hr : rs[i]? = some r) (ha : Ev ta σ H (.ref p)) (hb : Ev tb σ H (nV i)) : Ev (tOp (rIxL K) ta tb) σ H (.ref r) :=
  ev_op ha hb (rv_ixL (sq_of h.at_) (atI_nat (by rw [List.getElem?_map, hr]; rfl)))
end

/-! ### _law_one -/
def spOne (K : PySem.W.Frag) : Sp := fun vs H Q _ => ∃ p L ns N i xs, vs = [.ref p, .ref i] ∧ Dk H p L ns N ∧ N ≤ 1000000000 ∧ H i = some (.lst xs) ∧ i ≠ p ∧ 1 ≤ xs.length ∧ xs.length ≤ 1000000 ∧
  ∀ x H', x ∈ xs → Ex (rem H p) H' → Dk H' p L ns (N + 1) → Q x H'
theorem scOne : FnScope ["_law_deck_here", "_law_items"] ["_law_deck_here", "_law_items"] (defScope sOne) := ⟨rfl, rfl, rfl, by decide +kernel, rfl, by decide +kernel, by decide +kernel⟩
/-! ### _law_ups -/
def upsL (kk : List (List Nat)) (k : Nat) : List Nat := (List.range kk.length).filter fun u => decide (k ∈ kk.getD u [])
def spUps (K : PySem.W.Frag) : Sp := fun vs H Q _ => ∃ p rs kk k, vs = [.ref p, nV k] ∧ KdAt H p rs kk ∧ Sml kk ∧ ∀ l H', H l = none → Ex H H' → H' l = some (.lst (nVs (upsL kk k))) → Q (.ref l) H'
abbrev nUps : List Str := ["_law_kids_here", "_law_kind", "_law_up"]
section
variable {P : Program} {w : World} {K : PySem.W.Frag} {mg : Str → Option Value} {base : Heap}
theorem ok_one {f fW : Addr} {fd fdW : FuncData} (F : Fun K "_law_one" "_law_one" sOne f fd) (FW : Fun K "_law_draw" "_law_draw" sDraw fW fdW) (bW : Binds K fdW ["_law_deck_here", "_law_many"] []) (gW : mg "_law_draw" = some (.ref fW)) (m3 : mg "len" = none)
    (GW : FnOk P w K mg base CX0 1 fW fdW ["_law_deck_here", "_law_many"] spDraw) : FnOk P w K mg base CX0 2 f fd ["_law_deck_here", "_law_items"] (spOne K) := by
  refine F.ok scOne (fun vs H Q E h => ?_) (fun cdv A outer s H vs Q E hr h => ?_)
  · obtain ⟨p, L, ns, N, i, xs, rfl, _⟩ := h
    rfl
  obtain ⟨p, L, ns, N, i, xs, rfl, hD, hN, hi, hne, h1, h2, q⟩ := h
  refine ⟨_, pss_one (ps_ret (pe_ix ix_list (pv 1) (pe_call GW hr (by rfl) gW FW.kp bW .nil pass0 (pa_cons (pv 0) (pa_cons (pe_callB call_len_seq (by rfl) m3 PySem.boot_len (pa_cons (pv 1) pa_nil)) pa_nil))) (fun _ _ => rfl))), ?_⟩
  refine ⟨.ref i, rfl, .ref p, rfl, .ref i, rfl, i, xs, rfl, .inl (sq_of hi), p, L, ns, _, N, rfl, hD, hN, by omega, by omega, fun r H' hr0 hr1 e hD' => ?_⟩
  have hi' : H' i = some (.lst xs) := e _ _ (by rw [rem_ne hne]; exact hi)
  obtain ⟨k, rfl⟩ : ∃ k : Nat, r = (k : Int) := ⟨r.toNat, (Int.toNat_of_nonneg hr0).symm⟩
  have hk : k < xs.length := by omega
  exact ⟨i, xs, (k : Int), xs[k], rfl, rfl, sq_of hi', atI_nat (by rw [List.getElem?_eq_getElem hk]), q _ H' (List.getElem_mem hk) e hD'⟩
end
end WR
-- auto
set_option Elab.async false
set_option linter.all false
set_option maxRecDepth 100000
set_option maxHeartbeats 1000000
namespace WR
open PySem PySem.Spec PyProof.Rows L2 Evl

/-! ### _law_down: all that is beneath -/
def un (S : List Nat) : Nat → Nat
  | 0 => 0
  | m + 1 => un S m + (if m ∈ S then 0 else 1)
theorem un_nil : ∀ n, un [] n = n
  | 0 => rfl
  | n + 1 => by
    show un [] n + (if n ∈ ([] : List Nat) then 0 else 1) = n + 1
    rw [un_nil n]
    rfl
theorem un_ge {S : List Nat} {x : Nat} : ∀ {n : Nat}, n ≤ x → un (S ++ [x]) n = un S n
  | 0, _ => rfl
  | n + 1, h => by
    show un (S ++ [x]) n + _ = un S n + _
    rw [un_ge (by omega)]
    have : (n ∈ S ++ [x]) ↔ n ∈ S := by simp; omega
    simp only [this]
theorem un_add {S : List Nat} {x : Nat} : ∀ {n : Nat}, x < n → x ∉ S → un (S ++ [x]) n + 1 = un S n
  | n + 1, h, hx => by
    show (un (S ++ [x]) n + _) + 1 = un S n + _
    by_cases e : x = n
    · subst e
      rw [un_ge (Nat.le_refl _), if_neg hx, if_pos (by simp)]
    · have ih := un_add (S := S) (show x < n by omega) hx
      have : (n ∈ S ++ [x]) ↔ n ∈ S := by simp; omega
      simp only [this]
      omega
def dKs (S : List Nat) : List (Key × V) := S.map fun (k : Nat) => (Sum.inl (k : Int), V.bl true)
theorem dKs_val {k : Nat} : ∀ {S : List Nat}, valV (dKs S) (Sum.inl (k : Int)) = if k ∈ S then some (V.bl true) else none
  | [] => rfl
  | x :: S => by
    by_cases e : x = k
    · subst e
      rw [if_pos (List.mem_cons_self ..)]
      exact valV_pos rfl
    · have hn : ¬ ((Sum.inl (x : Int) : Key) = Sum.inl (k : Int)) := fun z => e (by
        have := Sum.inl.inj z
        omega)
      show valV ((Sum.inl (x : Int), V.bl true) :: dKs S) _ = _
      rw [valV_neg hn, dKs_val]
      have : (k ∈ x :: S) ↔ k ∈ S := by simp [Ne.symm e]
      simp only [this]
theorem dKs_put {k : Nat} {S : List Nat} (h : k ∉ S) : putK (dKs S) (Sum.inl (k : Int)) (V.bl true) = dKs (S ++ [k]) := by
  rw [putK_new _ (by rw [dKs_val, if_neg h])]
  unfold dKs
  rw [List.map_append]
  rfl
def rowAt (kk : List (List Nat)) (u : Nat) : List Nat := kk.getD u []
/-- S: what is beneath kind, and it -/
structure Beneath (kk : List (List Nat)) (kind : Nat) (S : List Nat) : Prop where
  nd : S.Nodup
  self : kind ∈ S
  shut : ∀ u c, u ∈ S → c ∈ rowAt kk u → c ∈ S
  least : ∀ T : Nat → Prop, T kind → (∀ u c, T u → c ∈ rowAt kk u → T c) → ∀ x ∈ S, T x
  lt : ∀ x ∈ S, x < kk.length
def spDown (K : PySem.W.Frag) : Sp := fun vs H Q _ => ∃ p rs kk k, vs = [.ref p, nV k] ∧ KdAt H p rs kk ∧ Sml kk ∧ k < kk.length ∧ (∀ ks ∈ kk, ∀ c ∈ ks, c < kk.length) ∧
  ∀ d H' S, Beneath kk k S → H d = none → Ex H H' → H' d = some (.dK (dKs S)) → Q (.ref d) H'
abbrev nDown : List Str := ["_law_kids_here", "_law_kind", "_law_found", "_law_left", "_law_one_here"]
theorem eqv_nats_nil : ∀ ks : List Nat, PyData.eqv (.list (natDs ks)) (.list []) = ks.isEmpty
  | [] => by simp [natDs, PyData.eqv, PyData.eqvAll]
  | _ :: _ => by simp [natDs, PyData.eqv, PyData.eqvAll]
theorem shaped_nats (ks : List Nat) : SeqAt.shaped (.list (natDs ks)) = true := by
  have e : natDs ks = (ks.map fun (k : Nat) => (k : Int)).map PyData.int := by
    unfold natDs
    rw [List.map_map]
    rfl
  rw [e]
  exact shaped_ints _
/-- xs != [] -/
theorem et_neNil {K : PySem.W.Frag} {σ : L2.St} {H : Hp} {ta : TE} {l : Addr} {ks : List Nat} (ha : Ev ta σ H (.ref l)) (hl : H l = some (.lst (nVs ks))) : EvT (tTest (tOp (rNeD K) ta (tLst tNil))) σ H (!ks.isEmpty) :=
  et_test (ev_opL (x := .ref l) (xs := []) ha (el_lst ea_nil (by simp)) fun q H1 h1 e1 H2 e2 Q q2 => by
    refine ⟨.list (natDs ks), .list [], .lst (sq_of (e2 _ _ (e1 _ _ hl))) (dpAll_nat ks), .lst (sq_of (e2 _ _ h1)) .nil, shaped_nats ks, shaped_ints [], ?_⟩
    rw [eqv_nats_nil]
    exact q2 H2 (Ex.refl H2))
theorem et_eqNil {K : PySem.W.Frag} {σ : L2.St} {H : Hp} {ta : TE} {l : Addr} {ks : List Nat} (ha : Ev ta σ H (.ref l)) (hl : H l = some (.lst (nVs ks))) : EvT (tTest (tOp (rEqD K) ta (tLst tNil))) σ H ks.isEmpty :=
  et_test (ev_opL (x := .ref l) (xs := []) ha (el_lst ea_nil (by simp)) fun q H1 h1 e1 H2 e2 Q q2 => by
    refine ⟨.list (natDs ks), .list [], .lst (sq_of (e2 _ _ (e1 _ _ hl))) (dpAll_nat ks), .lst (sq_of (e2 _ _ h1)) .nil, shaped_nats ks, shaped_ints [], ?_⟩
    rw [eqv_nats_nil]
    exact q2 H2 (Ex.refl H2))
/-- x = xs.pop() -/
theorem q_pop {K : PySem.W.Frag} {σ : L2.St} {H : Hp} {ta : TE} {D : Ends} {tz : TS} {i : Nat} {l : Addr} {xs : List V} {x : V} (ha : Ev ta σ H (.ref l)) (hl : H l = some (.lst (xs ++ [x]))) (k : ∀ H1, Ex H H1 → tz D (σ.set i (some x)) (upd H1 l (.lst xs))) :
    tSeq (tAsg (tBM0 K "list" rPop ta) (gName i)) tz D σ H := ha H (Ex.refl H) _ fun H1 e1 => by
  have h1 := e1 _ _ hl
  refine ⟨.inl ⟨rfl, _, sq_of h1⟩, l, _, x, rfl, rfl, h1, by simp, ?_⟩
  rw [List.dropLast_concat]
  exact k H1 e1
theorem et_dnotin {σ : L2.St} {H : Hp} {td ty : TE} {d : Addr} {kvs : List (Key × V)} {k : Int} (hd : Ev td σ H (.ref d)) (hk : Ev ty σ H (.int k)) (h : H d = some (.dK kvs)) : EvT (tB (tDNotIn ty td)) σ H (!(valV kvs (Sum.inl k)).isSome) := fun H1 e Q q =>
  hk H1 e _ fun H2 e2 => hd H2 (e.trans e2) _ fun H3 e3 => ⟨d, _, rfl, DGet.k (k := Sum.inl k) (((e.trans e2).trans e3) _ _ h), _, rfl, q H3 (e2.trans e3)⟩
theorem et_din {σ : L2.St} {H : Hp} {td ty : TE} {d : Addr} {kvs : List (Key × V)} {k : Int} (hd : Ev td σ H (.ref d)) (hk : Ev ty σ H (.int k)) (h : H d = some (.dK kvs)) : EvT (tB (tDIn ty td)) σ H (valV kvs (Sum.inl k)).isSome := fun H1 e Q q =>
  hk H1 e _ fun H2 e2 => hd H2 (e.trans e2) _ fun H3 e3 => ⟨d, _, rfl, DGet.k (k := Sum.inl k) (((e.trans e2).trans e3) _ _ h), _, rfl, q H3 (e2.trans e3)⟩
/-- d[k] = v -/
theorem q_dput {σ : L2.St} {H : Hp} {td ty tv : TE} {D : Ends} {tz : TS} {d : Addr} {kvs : List (Key × V)} {k : Int} {v : V} (hv : Ev tv σ H v) (hd : Ev td σ H (.ref d)) (hk : Ev ty σ H (.int k)) (h : H d = some (.dK kvs)) (hz : kvs.length < 100000)
    (c : ∀ H1, Ex H H1 → tz D σ (upd H1 d (.dK (putK kvs (Sum.inl k) v)))) : tSeq (sDPut td ty tv) tz D σ H :=
  hv H (Ex.refl H) _ fun H1 e1 => hd H1 e1 _ fun H2 e2 => hk H2 (e1.trans e2) _ fun H3 e3 => ⟨d, _, rfl, DPut.k (k := Sum.inl k) (((e1.trans e2).trans e3) _ _ h) (sz_lt hz), c H3 ((e1.trans e2).trans e3)⟩
/-- xs.extend(ys) -/
theorem s_extend {K : PySem.W.Frag} {σ : L2.St} {H : Hp} {ta tb : TE} {D : Ends} {l b : Addr} {xs ys : List V} (ha : Ev ta σ H (.ref l)) (hb : Ev tb σ H (.ref b)) (hl : H l = some (.lst xs)) (hy : H b = some (.lst ys)) (hz : xs.length + ys.length ≤ 100000)
    (k : ∀ H1, Ex H H1 → D.nx σ (upd H1 l (.lst (xs ++ ys)))) : tDrop (tBM K "list" rExtend ta (tCons tb tNil)) D σ H :=
  ha H (Ex.refl H) _ fun H1 e1 => ⟨.inl ⟨rfl, _, sq_of (e1 _ _ hl)⟩, hb H1 e1 _ fun H2 e2 => ⟨l, b, xs, ys, rfl, rfl, (e1.trans e2) _ _ hl, (e1.trans e2) _ _ hy, sz_of hz, k H2 (e1.trans e2)⟩⟩
section
variable {P : Program} {w : World} {K : PySem.W.Frag} {mg : Str → Option Value} {base : Heap}
end
end WR
-- auto
set_option Elab.async false
set_option linter.all false
set_option maxRecDepth 100000
set_option maxHeartbeats 2000000
namespace WR
open PySem PySem.Spec PyProof.Rows L2 Evl

/-! ### comprehensions that choose among numbers -/
theorem given_nat {ks : List Nat} {g : Nat → Bool} : given ks.length (fun i => g (ks.getD i 0)) (fun i => nV (ks.getD i 0)) = nVs (ks.filter g) := by
  unfold given nVs
  have e : (List.range ks.length).map (fun i => ks.getD i 0) = ks := by
    refine List.ext_getElem? fun i => ?_
    rw [List.getElem?_map]
    by_cases h : i < ks.length
    · rw [List.getElem?_range h, List.getElem?_eq_getElem h, Option.map_some, List.getD_eq_getElem?_getD, List.getElem?_eq_getElem h]
      rfl
    · rw [List.getElem?_eq_none (by rw [List.length_range]; omega), List.getElem?_eq_none (by omega)]
      rfl
  have key : ∀ l : List Nat, (l.filter fun i => g (ks.getD i 0)).map (fun i => nV (ks.getD i 0)) = ((l.map fun i => ks.getD i 0).filter g).map nV := fun l => by
    induction l with
    | nil => rfl
    | cons x r ih =>
      rw [List.filter_cons, List.map_cons, List.filter_cons]
      cases h : g (ks.getD x 0) with
      | true =>
        rw [if_pos rfl, if_pos rfl, List.map_cons, List.map_cons, ih]
      | false =>
        rw [if_neg Bool.false_ne_true, if_neg Bool.false_ne_true, ih]
  rw [key, e]
section
variable {K : PySem.W.Frag} {σ : L2.St} {H H' : Hp} {ta tb te tl : TE} {t : TT}
theorem nVs_get {ks : List Nat} {i : Nat} {x : V} (h : (nVs ks)[i]? = some x) : ∃ k, ks[i]? = some k ∧ x = nV k ∧ ks.getD i 0 = k ∧ k ∈ ks := by
  unfold nVs at h
  rw [List.getElem?_map] at h
  obtain ⟨k, hk, rfl⟩ := Option.map_eq_some_iff.mp h
  exact ⟨k, hk, rfl, by rw [List.getD_eq_getElem?_getD, hk]; rfl, List.mem_of_getElem? hk⟩
theorem el_natLc {j : Nat} {vs : List Nat} {a : Addr} {ks : List Nat} (g : Nat → Bool) (h : Ev tl σ H (.ref a)) (hx : SqL K H a (nVs ks)) (hz : ks.length ≤ 40000) (hw : ∀ x, wipe ((wipe σ vs).set j (some x)) vs = wipe σ vs) (hj : j < (wipe σ vs).length)
    (ht : ∀ k H1, Ex H H1 → k ∈ ks → EvT t ((wipe σ vs).set j (some (nV k))) H1 (g k)) : EvL (tLc (iList K tl) (gName j) t (tVar j) vs) σ H (nVs (ks.filter g)) := by
  rw [← given_nat]
  have q := el_lcL (K := K) (xs := nVs ks) (σ := σ) (H := H) (t := t) (te := tVar j) (vs := vs) (j := j) (fun i => g (ks.getD i 0)) (fun i => nV (ks.getD i 0)) h hx (by unfold nVs; rw [List.length_map]; exact hz) hw (fun i x H1 e hi => by
    obtain ⟨k, _, rfl, h1, hm⟩ := nVs_get hi
    rw [h1]
    exact ht k H1 e hm) (fun i x H1 e hi _ => by
    obtain ⟨k, _, rfl, h1, hm⟩ := nVs_get hi
    rw [h1]
    exact ev_var (by rw [List.getElem?_set_self hj]))
  have e : (nVs ks).length = ks.length := by unfold nVs; rw [List.length_map]
  rw [e] at q
  exact q
theorem el_rngLc {ta : TA} {j n : Nat} {vs : List Nat} (g : Nat → Bool) (h : EvA ta σ H [.int (n : Int)]) (hn : n ≤ 40000) (hw : ∀ x, wipe ((wipe σ vs).set j (some x)) vs = wipe σ vs) (hj : j < (wipe σ vs).length)
    (ht : ∀ k H1, Ex H H1 → k < n → EvT t ((wipe σ vs).set j (some (nV k))) H1 (g k)) : EvL (tLc (iRng1 ta) (gName j) t (tVar j) vs) σ H (nVs ((List.range n).filter g)) := by
  have q := el_lcR1 (σ := σ) (H := H) (t := t) (te := tVar j) (vs := vs) (j := j) (n := (n : Int)) g nV h ⟨by omega, by omega⟩ hw (fun i H1 e hi => ht i H1 e (by omega)) (fun i H1 e hi _ => ev_var (by rw [List.getElem?_set_self hj]; rfl))
  rw [Int.toNat_natCast] at q
  exact q
/-- what a def hands back: a new list -/
theorem el_ups {E : XK} {tp tk : TE} {p : Addr} {rs : List Addr} {kk : List (List Nat)} {k : Nat} (hp : Ev tp σ H (.ref p)) (hk : Ev tk σ H (nV k)) (hK : KdAt H p rs kk) (hS : Sml kk) : EvL (tCall (spUps K) [] E (tCons tp (tCons tk tNil))) σ H (nVs (upsL kk k)) := fun H1 e Q q =>
  hp H1 e _ fun H2 e2 => hk H2 (e.trans e2) _ fun H3 e3 => ⟨p, rs, kk, k, rfl, hK.ex ((e.trans e2).trans e3), hS, fun l H4 hl e4 h4 => q l H4 (fresh_back (e2.trans e3) hl) ((e2.trans e3).trans e4) h4⟩
theorem ev_lenL {ks : List Nat} (h : EvL te σ H (nVs ks)) : Ev (tCB (rLenS K) (tCons te tNil)) σ H (nV ks.length) := ev_is (ev_lenN (K := K) h) (by unfold nVs nV; rw [List.length_map])
end

/-! ### rows and their numbers -/
theorem cnt_ups (kk : List (List Nat)) (k : Nat) : (upsL kk k).length = cnt (rowAt kk) k kk.length := by
  unfold upsL
  have key : ∀ n, ((List.range n).filter fun u => decide (k ∈ kk.getD u [])).length = cnt (rowAt kk) k n := fun n => by
    induction n with
    | zero => rfl
    | succ n ih =>
      rw [List.range_succ, List.filter_append, List.length_append, ih, List.filter_cons]
      show _ = cnt (rowAt kk) k n + (if k ∈ rowAt kk n then 1 else 0)
      by_cases z : k ∈ kk.getD n []
      · rw [decide_eq_true z, if_pos rfl, if_pos (show k ∈ rowAt kk n from z)]
        rfl
      · rw [decide_eq_false z, if_neg Bool.false_ne_true, if_neg (show ¬ k ∈ rowAt kk n from z)]
        rfl
  exact key _
theorem mem_ups {kk : List (List Nat)} {k u : Nat} : u ∈ upsL kk k ↔ u < kk.length ∧ k ∈ rowAt kk u := by
  unfold upsL
  rw [List.mem_filter, List.mem_range, decide_eq_true_eq]
  rfl
theorem rowAt_get {kk : List (List Nat)} {u : Nat} (h : u < kk.length) : kk[u]? = some (rowAt kk u) := by
  unfold rowAt
  rw [List.getD_eq_getElem?_getD, List.getElem?_eq_getElem h]
  rfl
theorem rowAt_set {kk : List (List Nat)} {u : Nat} {ks : List Nat} (h : u < kk.length) : rowAt (kk.set u ks) = setK (rowAt kk) u ks := by
  funext x
  show (kk.set u ks).getD x [] = if x = u then ks else kk.getD x []
  rw [List.getD_eq_getElem?_getD, List.getD_eq_getElem?_getD, List.getElem?_set]
  by_cases e : u = x
  · subst e
    rw [if_pos rfl, if_pos rfl, if_pos h]
    rfl
  · rw [if_neg e, if_neg (Ne.symm e)]
theorem rowAt_app {kk : List (List Nat)} {ks : List Nat} : rowAt (kk ++ [ks]) = setK (rowAt kk) kk.length ks := by
  funext x
  show (kk ++ [ks]).getD x [] = if x = kk.length then ks else kk.getD x []
  rw [List.getD_eq_getElem?_getD, List.getD_eq_getElem?_getD, List.getElem?_append]
  by_cases e : x = kk.length
  · subst e
    rw [if_neg (Nat.lt_irrefl _), if_pos rfl, Nat.sub_self]
    rfl
  · rw [if_neg e]
    by_cases h : x < kk.length
    · rw [if_pos h]
    · rw [if_neg h, List.getElem?_eq_none (show kk.length ≤ x by omega), List.getElem?_eq_none (by simp; omega)]

/-! ### the surroundings: B stands, but the deck in it; the rows are new -/
structure Bs (B H : Hp) (dk L : Addr) (ns : List Int) (N : Int) : Prop where
  ex : Ex (rem B dk) H
  deck : Dk H dk L ns N
  bdk : ∃ o, B dk = some o
  bL : ∃ o, B L = some o
structure Kds (B H : Hp) (p : Addr) (rs : List Addr) (kk : List (List Nat)) : Prop where
  kd : KdAt H p rs kk
  bp : B p = none
  br : ∀ r ∈ rs, B r = none
theorem Bs.more {B H H' : Hp} {dk L : Addr} {ns : List Int} {N : Int} (b : Bs B H dk L ns N) (e : Ex H H') : Bs B H' dk L ns N := ⟨b.ex.trans e, b.deck.ex e, b.bdk, b.bL⟩
theorem Kds.ex {B H H' : Hp} {p : Addr} {rs : List Addr} {kk : List (List Nat)} (k : Kds B H p rs kk) (e : Ex H H') : Kds B H' p rs kk := ⟨k.kd.ex e, k.bp, k.br⟩
theorem Bs.ne {B H : Hp} {dk L : Addr} {ns : List Int} {N : Int} (b : Bs B H dk L ns N) {r : Addr} (h : B r = none) : r ≠ dk := fun z => by
  obtain ⟨o, ho⟩ := b.bdk
  rw [z, ho] at h
  cases h
/-- a new thing in H is none of B's -/
theorem Bs.new {B H : Hp} {dk L : Addr} {ns : List Int} {N : Int} (b : Bs B H dk L ns N) {r : Addr} (h : H r = none) : B r = none := by
  cases e : B r with
  | none => rfl
  | some o =>
    have hne : r ≠ dk := fun z => by
      obtain ⟨_, _, _, d, _⟩ := b.deck
      rw [z, d.at_] at h
      cases h
    have q := b.ex r o (by rw [rem_ne hne]; exact e)
    rw [h] at q
    cases q
/-- a thing that is none of B's may change -/
theorem Bs.upd {B H : Hp} {dk L : Addr} {ns : List Int} {N : Int} {r : Addr} {o : HO} (b : Bs B H dk L ns N) (h : B r = none) : Bs B (upd H r o) dk L ns N := by
  have hne := b.ne h
  have hL : L ≠ r := fun z => by
    obtain ⟨o, ho⟩ := b.bL
    rw [z, h] at ho
    cases ho
  obtain ⟨x, y, n, d, hn⟩ := b.deck
  refine ⟨Ex.mut b.ex (by rw [rem_ne hne]; exact h), ⟨x, y, n, ⟨?_, ?_, d.a0, d.b0, d.n0, d.len⟩, hn⟩, b.bdk, b.bL⟩
  · rw [upd_ne (Ne.symm hne)]
    exact d.at_
  · rw [upd_ne hL]
    exact d.ls
theorem Bs.draw {B H H' : Hp} {dk L : Addr} {ns : List Int} {N M : Int} (b : Bs B H dk L ns N) (e : Ex (rem H dk) H') (d : Dk H' dk L ns M) : Bs B H' dk L ns M := ⟨rem_trans b.ex e, d, b.bdk, b.bL⟩
theorem Kds.draw {B H H' : Hp} {dk L : Addr} {ns : List Int} {N : Int} {p : Addr} {rs : List Addr} {kk : List (List Nat)} (k : Kds B H p rs kk) (b : Bs B H dk L ns N) (e : Ex (rem H dk) H') : Kds B H' p rs kk := by
  refine ⟨⟨e _ _ (by rw [rem_ne (b.ne k.bp)]; exact k.kd.at_), k.kd.len, k.kd.nd, k.kd.np, fun i r ks h1 h2 => ?_⟩, k.bp, k.br⟩
  exact e _ _ (by rw [rem_ne (b.ne (k.br r (List.mem_of_getElem? h1)))]; exact k.kd.row i r ks h1 h2)
/-- a row changes -/
theorem Kds.row {B H : Hp} {p r : Addr} {rs : List Addr} {kk : List (List Nat)} {u : Nat} {ks : List Nat} (k : Kds B H p rs kk) (hr : rs[u]? = some r) : Kds B (upd H r (.lst (nVs ks))) p rs (kk.set u ks) := by
  have hm := List.mem_of_getElem? hr
  have hpr : p ≠ r := fun z => k.kd.np (z ▸ hm)
  refine ⟨⟨by rw [upd_ne hpr]; exact k.kd.at_, by rw [List.length_set]; exact k.kd.len, k.kd.nd, k.kd.np, fun i r' ks' h1 h2 => ?_⟩, k.bp, k.br⟩
  by_cases e : i = u
  · subst e
    rw [hr] at h1
    cases h1
    have hl := (List.getElem?_eq_some_iff.mp h2).1
    rw [List.length_set] at hl
    rw [List.getElem?_set_self hl] at h2
    cases h2
    exact upd_same
  · rw [List.getElem?_set_ne (Ne.symm e)] at h2
    have hne : r' ≠ r := fun z => by
      subst z
      have h3 := List.getElem?_eq_some_iff.mp h1
      have h4 := List.getElem?_eq_some_iff.mp hr
      obtain ⟨a1, a2⟩ := h3
      obtain ⟨b1, b2⟩ := h4
      exact e ((List.getElem_inj k.kd.nd).mp (a2.trans b2.symm))
    rw [upd_ne hne]
    exact k.kd.row i r' ks' h1 h2
/-- a row more: r new -/
theorem Kds.app {B H : Hp} {p r : Addr} {rs : List Addr} {kk : List (List Nat)} {ks : List Nat} (k : Kds B H p rs kk) (hr : H r = some (.lst (nVs ks))) (hnew : r ∉ p :: rs) (hb : B r = none) : Kds B (upd H p (.lst ((rs ++ [r]).map V.ref))) p (rs ++ [r]) (kk ++ [ks]) := by
  rw [List.mem_cons, not_or] at hnew
  refine ⟨⟨upd_same, by rw [List.length_append, List.length_append, k.kd.len]; rfl, ?_, ?_, fun i r' ks' h1 h2 => ?_⟩, k.bp, fun x hx => ?_⟩
  · rw [List.nodup_append]
    exact ⟨k.kd.nd, by simp, fun a ha b hb' z => hnew.2 (by rw [List.mem_singleton.mp hb'] at z; exact z ▸ ha)⟩
  · intro z
    rcases List.mem_append.mp z with z | z
    · exact k.kd.np z
    · exact hnew.1 (List.mem_singleton.mp z).symm
  · rw [List.getElem?_append] at h1 h2
    rw [k.kd.len] at h1
    by_cases hi : i < kk.length
    · rw [if_pos hi] at h1 h2
      have hne : r' ≠ p := fun z => k.kd.np (z ▸ List.mem_of_getElem? h1)
      rw [upd_ne hne]
      exact k.kd.row i r' ks' h1 h2
    · rw [if_neg hi] at h1 h2
      have e0 : i - kk.length = 0 := by
        have := (List.getElem?_eq_some_iff.mp h1).1
        simp at this
        omega
      rw [e0] at h1 h2
      cases h1
      cases h2
      rw [upd_ne hnew.1]
      exact hr
  · rcases List.mem_append.mp hx with h | h
    · exact k.br x h
    · rw [List.mem_singleton.mp h]
      exact hb

theorem KdAt.fresh {H : Hp} {p x : Addr} {rs : List Addr} {kk : List (List Nat)} (k : KdAt H p rs kk) (h : H x = none) : x ∉ p :: rs := fun z => by
  rcases List.mem_cons.mp z with z | z
  · rw [z, k.at_] at h
    cases h
  · obtain ⟨i, hi, ei⟩ := List.mem_iff_getElem.mp z
    have := k.row i x _ (by rw [List.getElem?_eq_getElem hi, ei]) (rowAt_get (by rw [← k.len]; exact hi))
    rw [this] at h
    cases h
theorem Bs.wk {B H : Hp} {dk L : Addr} {ns : List Int} {N M : Int} (b : Bs B H dk L ns N) (h : N ≤ M) : Bs B H dk L ns M := by
  obtain ⟨x, y, n, d, hn⟩ := b.deck
  exact ⟨b.ex, ⟨x, y, n, d, Int.le_trans hn h⟩, b.bdk, b.bL⟩
theorem nodup_len : ∀ (n : Nat) (ks : List Nat), ks.Nodup → (∀ c ∈ ks, c < n) → ks.length ≤ n
  | 0, ks, _, h => by
    cases ks with
    | nil => exact Nat.le_refl _
    | cons x r => exact absurd (h x (List.mem_cons_self ..)) (by omega)
  | n + 1, ks, hd, h => by
    by_cases e : n ∈ ks
    · have q := nodup_len n (ks.erase n) (hd.erase n) fun c hc => by
        have q1 := (List.Nodup.mem_erase_iff hd).mp hc
        have := h c q1.2
        have := q1.1
        omega
      rw [List.length_erase_of_mem e] at q
      omega
    · have q := nodup_len n ks hd fun c hc => by
        have := h c hc
        have : c ≠ n := fun z => e (z ▸ hc)
        omega
      omega
theorem sml_of {L x : Nat} {kk : List (List Nat)} (g : GenX L kk.length (rowAt kk) x) (h : kk.length ≤ 40) : Sml kk := by
  refine ⟨h, fun ks hks => ?_⟩
  obtain ⟨i, hi, e⟩ := List.mem_iff_getElem.mp hks
  have q : rowAt kk i = ks := by
    unfold rowAt
    rw [List.getD_eq_getElem?_getD, List.getElem?_eq_getElem hi, e]
    rfl
  have := nodup_len kk.length ks (q ▸ g.nd i) fun c hc => g.lt i c (q ▸ hc)
  omega
/-- x is k or beneath it -/
def Rch (kk : List (List Nat)) (k x : Nat) : Prop := ∀ T : Nat → Prop, T k → (∀ u c, T u → c ∈ rowAt kk u → T c) → T x
theorem rch_self {kk : List (List Nat)} {k : Nat} : Rch kk k k := fun _ h _ => h
theorem rch_shut {kk : List (List Nat)} {k : Nat} : Shut (rowAt kk) (Rch kk k) := fun u c h hc T h1 h2 => h2 u c (h T h1 h2) hc
theorem beneath_iff {kk : List (List Nat)} {k x : Nat} {S : List Nat} (h : Beneath kk k S) : x ∈ S ↔ Rch kk k x :=
  ⟨fun hx T h1 h2 => h.least T h1 h2 x hx, fun hx => hx (· ∈ S) h.self h.shut⟩
theorem set_rep {a b : Nat} : ∀ {ks : List Nat} {j : Nat}, ks.Nodup → ks[j]? = some a → ks.set j b = rep a b ks
  | x :: r, 0, hd, h => by
    have e : x = a := by simpa using h
    subst e
    rw [List.nodup_cons] at hd
    show b :: r = (if x = x then b else x) :: rep x b r
    rw [if_pos rfl]
    have : rep x b r = r := by
      unfold rep
      refine (List.map_congr_left fun y hy => ?_).trans (List.map_id r)
      rw [if_neg (fun (w : y = x) => hd.1 (w ▸ hy))]
      rfl
    rw [this]
  | x :: r, j + 1, hd, h => by
    rw [List.nodup_cons] at hd
    have h : r[j]? = some a := by simpa using h
    have hx : x ≠ a := fun z => hd.1 (z ▸ List.mem_of_getElem? h)
    show x :: r.set j b = (if x = a then b else x) :: rep a b r
    rw [if_neg hx, set_rep hd.2 h]
section
variable {K : PySem.W.Frag} {σ : L2.St} {H H' : Hp} {ta tb te tl : TE} {t : TT} {D : Ends} {tz : TS}
theorem et_eqNilL {ks : List Nat} (h : EvL ta σ H (nVs ks)) : EvT (tTest (tOp (rEqD K) ta (tLst tNil))) σ H ks.isEmpty :=
  et_test (ev_opLL (ys := []) h (el_lst ea_nil (by simp)) fun p q H1 h1 h2 e1 H2 e2 Q q2 => by
    refine ⟨.list (natDs ks), .list [], .lst (sq_of (e2 _ _ h1)) (dpAll_nat ks), .lst (sq_of (e2 _ _ h2)) .nil, shaped_nats ks, shaped_ints [], ?_⟩
    rw [eqv_nats_nil]
    exact q2 H2 (Ex.refl H2))
/-- the place of an item that is there -/
theorem ev_index {l : Addr} {ks : List Nat} {j a : Nat} (ha : Ev ta σ H (.ref l)) (hb : Ev tb σ H (nV a)) (hl : H l = some (.lst (nVs ks))) (hj : ks[j]? = some a) (hd : ks.Nodup) :
    Ev (tBM K "list" (rIndex K) ta (tCons tb tNil)) σ H (nV j) := fun H1 e Q q =>
  ha H1 e _ fun H2 e2 => ⟨.inl ⟨rfl, _, sq_of ((e.trans e2) _ _ hl)⟩, hb H2 (e.trans e2) _ fun H3 e3 => by
    refine ⟨l, nVs ks, nV a, j, nV a, rfl, rfl, sq_of (((e.trans e2).trans e3) _ _ hl), rfl, flat_nVs ks, nVs_at hj, by show ((a : Int) == (a : Int)) = true; simp, fun m z hm hz => ?_, q H3 (e2.trans e3)⟩
    obtain ⟨k, hk, rfl, _, _⟩ := nVs_get hz
    show ((k : Int) == (a : Int)) = false
    refine beq_eq_false_iff_ne.mpr fun z => ?_
    have z : k = a := by omega
    subst z
    have h3 := List.getElem?_eq_some_iff.mp hk
    have h4 := List.getElem?_eq_some_iff.mp hj
    obtain ⟨a1, a2⟩ := h3
    obtain ⟨b1, b2⟩ := h4
    have := (List.getElem_inj hd).mp (a2.trans b2.symm)
    omega⟩
/-- a kind in what is beneath -/
theorem et_down {E : XK} {tp tk tx : TE} {p : Addr} {rs : List Addr} {kk : List (List Nat)} {k x : Nat} (hp : Ev tp σ H (.ref p)) (hk : Ev tk σ H (nV k)) (hx : Ev tx σ H (nV x)) (hK : KdAt H p rs kk) (hS : Sml kk) (hkn : k < kk.length) (hlt : ∀ ks ∈ kk, ∀ c ∈ ks, c < kk.length) :
    EvT (tB (tDIn tx (tCall (spDown K) [] E (tCons tp (tCons tk tNil))))) σ H (@decide (Rch kk k x) (Classical.propDecidable _)) := fun H1 e Q q =>
  hx H1 e _ fun H2 e2 => hp H2 (e.trans e2) _ fun H3 e3 => hk H3 ((e.trans e2).trans e3) _ fun H4 e4 => by
    have e14 := (e2.trans e3).trans e4
    refine ⟨p, rs, kk, k, rfl, hK.ex (e.trans e14), hS, hkn, hlt, fun d H5 S hS5 hd e5 h5 => ⟨d, _, rfl, DGet.k (k := Sum.inl (x : Int)) h5, _, rfl, ?_⟩⟩
    have eb : (valV (dKs S) (Sum.inl (x : Int))).isSome = @decide (Rch kk k x) (Classical.propDecidable _) := by
      rw [dKs_val]
      by_cases z : x ∈ S
      · rw [if_pos z]
        exact (@decide_eq_true _ (Classical.propDecidable _) ((beneath_iff hS5).mp z)).symm
      · rw [if_neg z]
        exact (@decide_eq_false _ (Classical.propDecidable _) (fun y => z ((beneath_iff hS5).mpr y))).symm
    rw [eb]
    exact q H5 (e14.trans e5)
/-- three draws at once -/
theorem q_three {dk li p L : Addr} {ns : List Int} {N : Int} {xs : List V} {ks : List Nat} {E E' E'' : XK} {i j l : Nat} (h0 : σ[0]? = some (some (.ref dk))) (h1 : σ[1]? = some (some (.ref p))) (h3 : σ[3]? = some (some (.ref li))) (hD : Dk H dk L ns N) (hN : N ≤ 999999990)
    (hp : H p = some (.lst xs)) (hx1 : 1 ≤ xs.length) (hx2 : xs.length ≤ 1000) (hli : H li = some (.lst (nVs ks))) (hk1 : ks ≠ []) (hk2 : ks.length ≤ 1000) (hne : li ≠ dk)
    (k : ∀ low c way H1, low < xs.length → c ∈ ks → way < 4 → Ex (rem H dk) H1 → Dk H1 dk L ns (N + 3) → tz D (((σ.set i (some (nV low))).set j (some (nV c))).set l (some (nV way))) H1) :
    tSeq (tAsg (tTup (tCons (tCall spDraw [] E (tCons (tVar 0) (tCons (tCB (fun xs H Q => ∃ p ys, xs = [.ref p] ∧ (SqL K H p ys ∨ SqT K H p ys) ∧ Q (.int ys.length) H) (tCons (tVar 1) tNil)) tNil))) (tCons (tCall (spOne K) [] E' (tCons (tVar 0) (tCons (tVar 3) tNil))) (tCons (tCall spDraw [] E'' (tCons (tVar 0) (tCons (tC (.int 4)) tNil))) tNil))))
      (gTup K 3 (gCons (gName i) (gCons (gName j) (gCons (gName l) gNil))))) tz D σ H := by
  refine ⟨.ref dk, h0, .ref p, h1, p, xs, rfl, .inl (sq_of hp), dk, L, ns, _, N, rfl, hD, by omega, by omega, by omega, fun r1 H1 a1 b1 e1 d1 => ?_⟩
  have hpos : 1 ≤ ks.length := by
    cases ks with
    | nil => exact absurd rfl hk1
    | cons _ _ => simp
  refine ⟨.ref dk, h0, .ref li, h3, dk, L, ns, N + 1, li, nVs ks, rfl, d1, by omega, e1 _ _ (by rw [rem_ne hne]; exact hli), hne, by unfold nVs; rw [List.length_map]; exact hpos, by unfold nVs; rw [List.length_map]; omega, fun x H2 hx e2 d2 => ?_⟩
  refine ⟨.ref dk, h0, dk, L, ns, 4, N + 1 + 1, rfl, d2, by omega, by decide, by decide, fun r3 H3 a3 b3 e3 d3 => ?_⟩
  refine ⟨by show 3 ≤ sizeLine; decide, fun T hT => ?_⟩
  obtain ⟨c, hc, rfl⟩ := List.mem_map.mp hx
  refine ⟨T, _, rfl, st_of upd_same, rfl, _, _, rfl, _, _, rfl, _, _, rfl, rfl, ?_⟩
  have q := k r1.toNat c r3.toNat (upd H3 T (.tup [.int r1, nV c, .int r3])) (by omega) hc (by omega) ((rem_trans (rem_trans e1 e2) e3).trans (Ex.new hT)) (by
    rw [show N + 3 = N + 1 + 1 + 1 by omega]
    exact d3.ex (Ex.new hT))
  have z1 : nV r1.toNat = .int r1 := by unfold nV; rw [Int.toNat_of_nonneg a1]
  have z3 : nV r3.toNat = .int r3 := by unfold nV; rw [Int.toNat_of_nonneg a3]
  rw [z1, z3] at q
  exact q
/-- x = one(deck, items) -/
theorem q_one {dk li L : Addr} {ns : List Int} {N : Int} {ks : List Nat} {E : XK} {i : Nat} {tp tl : TE} (h0 : Ev tp σ H (.ref dk)) (h1 : Ev tl σ H (.ref li)) (hD : Dk H dk L ns N) (hN : N ≤ 999999990) (hli : H li = some (.lst (nVs ks))) (hk1 : ks ≠ []) (hk2 : ks.length ≤ 1000) (hne : li ≠ dk)
    (k : ∀ c H1, c ∈ ks → Ex (rem H dk) H1 → Dk H1 dk L ns (N + 1) → tz D (σ.set i (some (nV c))) H1) : tSeq (tAsg (tCall (spOne K) [] E (tCons tp (tCons tl tNil))) (gName i)) tz D σ H :=
  h0 H (Ex.refl H) _ fun H1 e1 => h1 H1 e1 _ fun H2 e2 => by
    have hpos : 1 ≤ ks.length := by
      cases ks with
      | nil => exact absurd rfl hk1
      | cons _ _ => simp
    refine ⟨dk, L, ns, N, li, nVs ks, rfl, hD.ex (e1.trans e2), by omega, (e1.trans e2) _ _ hli, hne, by unfold nVs; rw [List.length_map]; exact hpos, by unfold nVs; rw [List.length_map]; omega, fun x H3 hx e3 d3 => ?_⟩
    obtain ⟨c, hc, rfl⟩ := List.mem_map.mp hx
    exact k c H3 hc ((rem_mono (e1.trans e2)).trans e3) d3
end
end WR
set_option Elab.async false
set_option linter.all false
set_option maxRecDepth 100000
set_option maxHeartbeats 2000000
namespace WR
open PySem PySem.Spec PyProof.Rows L2 Evl

def spMix (K : PySem.W.Frag) : Sp := fun vs H Q _ => ∃ dk p B L ns N rs kk Lv, vs = [.ref dk, .ref p] ∧ Bs B H dk L ns N ∧ N ≤ 900000000 ∧ Kds B H p rs kk ∧ Gen Lv kk.length (rowAt kk) ∧ Lv ≤ 8 ∧ kk.length ≤ Lv + 18 ∧
  ∀ H' rs' kk', Bs B H' dk L ns (N + 4) → Kds B H' p rs' kk' → Gen Lv kk'.length (rowAt kk') → kk'.length ≤ kk.length + 2 → Q .non H'
abbrev nMix : List Str := ["_law_deck_here", "_law_kids_here", "_law_plain", "_law_inner", "_law_low", "_law_high", "_law_way", "_law_ups_here", "_law_spots", "_law_one_here", "_law_over", "_law_kind"]
section
variable {P : Program} {w : World} {K : PySem.W.Frag} {mg : Str → Option Value} {base : Heap}
end
end WR
-- auto
set_option Elab.async false
set_option linter.all false
set_option maxRecDepth 100000
set_option maxHeartbeats 2000000
namespace WR
open PySem PySem.Spec PyProof.Rows L2 Evl

/-! ### _law_tree -/
/-- a tree as it grows: all kinds but the loose ones have one parent -/
structure TreeG (L n : Nat) (K : Nat → List Nat) (lo : List Nat) : Prop where
  l1 : 1 ≤ L
  ln : L ≤ n
  out : ∀ u, n ≤ u → K u = []
  leaf : ∀ u, u < L → K u = []
  lt : ∀ u c, c ∈ K u → c < u
  un : ∀ u c, c ∈ K u → u < n
  nd : ∀ u, (K u).Nodup
  two : ∀ u, L ≤ u → u < n → 2 ≤ (K u).length
  cn : ∀ k, k < n → cnt K k n = if k ∈ lo then 0 else 1
  lon : ∀ k, k ∈ lo → k < n
  lnd : lo.Nodup
theorem TreeG.gen {L n t : Nat} {K : Nat → List Nat} (g : TreeG L n K [t]) : Gen L n K := by
  have c1 : ∀ k, k < n → cnt K k n ≤ 1 := fun k hk => by
    rw [g.cn k hk]
    split <;> omega
  have hn : ∀ u c, c ∈ K u → c < n := fun u c h => by
    have := g.lt u c h
    by_cases z : n ≤ u
    · rw [g.out u z] at h
      cases h
    · omega
  refine ⟨g.l1, g.ln, g.out, g.leaf, hn, g.nd, ⟨id, g.lt⟩, fun u h1 h2 _ _ => g.two u h1 h2, fun u h => ?_, fun u h => c1 u (by have := g.ln; omega), fun u h1 h2 => ?_, t, g.lon t (List.mem_singleton.mpr rfl), fun k hk => ?_⟩
  · by_cases z : u < n
    · have := c1 u z
      omega
    · have : cnt K u n = 0 := cnt_out fun v hv hu => z (hn v u hu)
      omega
  · have h3 := g.two u h1 h2
    cases e : K u with
    | nil =>
      rw [e] at h3
      exact absurd h3 (by simp)
    | cons c r =>
      have hc := hn u c (by rw [e]; exact List.mem_cons_self ..)
      exact ⟨c, List.mem_cons_self .., c1 c hc, by omega⟩
  · rw [g.cn k hk]
    by_cases z : k = t
    · subst z
      rw [if_pos (List.mem_singleton.mpr rfl)]
      exact ⟨fun _ => rfl, fun _ => rfl⟩
    · rw [if_neg (fun y => z (List.mem_singleton.mp y))]
      exact ⟨fun y => (by omega), fun y => absurd y z⟩
/-- some loose kinds get a parent -/
theorem TreeG.step {L n : Nat} {K : Nat → List Nat} {lo got cur : List Nat} (g : TreeG L n K lo) (hp : (got ++ cur).Perm lo) (h2 : 2 ≤ got.length) : TreeG L (n + 1) (setK K n got) (cur ++ [n]) := by
  have hnd : (got ++ cur).Nodup := hp.nodup_iff.mpr g.lnd
  rw [List.nodup_append] at hnd
  obtain ⟨nd1, nd2, dis⟩ := hnd
  have hm : ∀ x, x ∈ lo ↔ x ∈ got ∨ x ∈ cur := fun x => by rw [← hp.mem_iff, List.mem_append]
  have hg : ∀ x ∈ got, x < n := fun x h => g.lon x ((hm x).mpr (.inl h))
  have hc : ∀ x ∈ cur, x < n := fun x h => g.lon x ((hm x).mpr (.inr h))
  have hln := g.ln
  refine ⟨g.l1, by omega, fun u hu => ?_, fun u hu => ?_, fun u c h => ?_, fun u c h => ?_, fun u => ?_, fun u h1 h3 => ?_, fun k hk => ?_, fun k hk => ?_, ?_⟩
  · rw [setK_ne (by omega)]
    exact g.out u (by omega)
  · rw [setK_ne (by omega)]
    exact g.leaf u hu
  · by_cases z : u = n
    · subst z
      rw [setK_same] at h
      exact hg c h
    · rw [setK_ne z] at h
      exact g.lt u c h
  · by_cases z : u = n
    · omega
    · rw [setK_ne z] at h
      by_cases y : n ≤ u
      · rw [g.out u y] at h
        cases h
      · omega
  · by_cases z : u = n
    · subst z
      rw [setK_same]
      exact nd1
    · rw [setK_ne z]
      exact g.nd u
  · by_cases z : u = n
    · subst z
      rw [setK_same]
      exact h2
    · rw [setK_ne z]
      exact g.two u h1 (by omega)
  · show cnt (setK K n got) k n + (if k ∈ setK K n got n then 1 else 0) = _
    rw [cnt_ge (Nat.le_refl _), setK_same]
    by_cases z : k = n
    · subst z
      rw [cnt_out fun u hu h => by have := g.lt u k h; omega, if_neg fun h => Nat.lt_irrefl _ (hg k h), if_pos (by simp)]
    · rw [g.cn k (by omega)]
      have e1 : (k ∈ cur ++ [n]) ↔ k ∈ cur := by simp [z]
      simp only [hm k, e1]
      by_cases a : k ∈ got
      · have : k ∉ cur := fun y => dis k a k y rfl
        simp [a, this]
      · simp [a]
  · rcases List.mem_append.mp hk with h | h
    · have := hc k h
      omega
    · rw [List.mem_singleton.mp h]
      omega
  · rw [List.nodup_append]
    exact ⟨nd2, by simp, fun a ha b hb z => by
      have := hc a ha
      have := List.mem_singleton.mp hb
      omega⟩
def spTree (K : PySem.W.Frag) : Sp := fun vs H Q _ => ∃ dk L ns N Lv, vs = [.ref dk, nV Lv] ∧ Dk H dk L ns N ∧ N ≤ 900000000 ∧ 1 ≤ Lv ∧ Lv ≤ 9 ∧
  ∀ H' p rs kk, Bs H H' dk L ns (N + 40) → Kds H H' p rs kk → Gen Lv kk.length (rowAt kk) → kk.length + 1 ≤ 2 * Lv → Q (.ref p) H'
abbrev nTree : List Str := ["_law_deck_here", "_law_leaves", "_law_found", "_law_loose", "_law_size", "_law_leaf", "_law_k"]
theorem perm_erase {x : Nat} : ∀ {cur : List Nat} {j : Nat}, cur[j]? = some x → (x :: cur.eraseIdx j).Perm cur
  | a :: r, 0, h => by
    have e : a = x := by simpa using h
    subst e
    exact List.Perm.refl _
  | a :: r, j + 1, h => by
    have h : r[j]? = some x := by simpa using h
    exact (List.Perm.swap a x _).trans ((perm_erase h).cons a)
theorem nVs_erase : ∀ {cur : List Nat} {j : Nat}, (nVs cur).eraseIdx j = nVs (cur.eraseIdx j)
  | [], _ => by simp [nVs]
  | a :: r, 0 => rfl
  | a :: r, j + 1 => by
    show nV a :: (nVs r).eraseIdx j = nV a :: nVs (r.eraseIdx j)
    rw [nVs_erase]
theorem rowAt_rep {n u : Nat} : rowAt (List.replicate n []) u = [] := by
  unfold rowAt
  rw [List.getD_eq_getElem?_getD, List.getElem?_replicate]
  split <;> rfl
theorem tree_start {L : Nat} (h : 1 ≤ L) : TreeG L L (rowAt (List.replicate L [])) (List.range L) := by
  refine ⟨h, Nat.le_refl _, fun u _ => rowAt_rep, fun u _ => rowAt_rep, fun u c hc => ?_, fun u c hc => ?_, fun u => ?_, fun u h1 h2 => by omega, fun k hk => ?_, fun k hk => List.mem_range.mp hk, List.nodup_range⟩
  · rw [rowAt_rep] at hc
    cases hc
  · rw [rowAt_rep] at hc
    cases hc
  · rw [rowAt_rep]
    exact List.nodup_nil
  · rw [if_pos (List.mem_range.mpr hk)]
    exact cnt_out fun u _ hc => by
      rw [rowAt_rep] at hc
      cases hc
theorem rgV_nat {n : Nat} : rgV 0 (n : Int) = nVs (List.range n) := by
  unfold rgV nVs
  rw [show ((n : Int) - 0).toNat = n by omega]
  refine List.map_congr_left fun i _ => ?_
  show V.int (0 + (i : Int)) = V.int (i : Int)
  congr 1
  omega
theorem yes_ {σ : L2.St} {H : Hp} {A C : Hp → Prop} (h : A H) : tYes σ H (fun b H3 => if b = true then A H3 else C H3) := by
  show (if true = true then A H else C H)
  rw [if_pos rfl]
  exact h
theorem seq_nat {i n : Nat} (h : i < n) : seqIndex? (i : Int) n = some i := by
  unfold seqIndex?
  have h1 : ¬ ((i : Int) < 0) := by omega
  simp only [h1, if_false]
  have h2 : (decide (0 ≤ (i : Int)) && decide ((i : Int) < (n : Int))) = true := by
    rw [Bool.and_eq_true, decide_eq_true_eq, decide_eq_true_eq]
    omega
  rw [h2]
  simp
section
variable {P : Program} {w : World} {K : PySem.W.Frag} {mg : Str → Option Value} {base : Heap}
theorem Kds.other {B H : Hp} {p r : Addr} {rs : List Addr} {kk : List (List Nat)} {o : HO} (k : Kds B H p rs kk) (hr : r ∉ p :: rs) : Kds B (upd H r o) p rs kk := by
  rw [List.mem_cons, not_or] at hr
  refine ⟨⟨by rw [upd_ne (Ne.symm hr.1)]; exact k.kd.at_, k.kd.len, k.kd.nd, k.kd.np, fun i r' ks h1 h2 => ?_⟩, k.bp, k.br⟩
  rw [upd_ne fun (z : r' = r) => hr.2 (z ▸ List.mem_of_getElem? h1)]
  exact k.kd.row i r' ks h1 h2
end
end WR
-- auto
set_option Elab.async false
set_option linter.all false
set_option maxRecDepth 100000
set_option maxHeartbeats 2000000
namespace WR
open PySem PySem.Spec PyProof.Rows L2 Evl

/-! ### _law_kids -/
def spLKids (K : PySem.W.Frag) : Sp := fun vs H Q _ => ∃ dk L ns N Lv mx, vs = [.ref dk, nV Lv, nV mx] ∧ Dk H dk L ns N ∧ N ≤ 800000000 ∧ 1 ≤ Lv ∧ Lv ≤ 8 ∧ mx ≤ 1000 ∧
  ∀ H' p rs kk, Bs H H' dk L ns (N + 41 + 4 * mx) → Kds H H' p rs kk → Gen Lv kk.length (rowAt kk) → kk.length ≤ Lv + 20 → Q (.ref p) H'
abbrev nLKids : List Str := ["_law_deck_here", "_law_leaves", "_law_mixes", "_law_kids_here", "_law_turn"]
section
variable {P : Program} {w : World} {K : PySem.W.Frag} {mg : Str → Option Value} {base : Heap}
theorem q_tree {σ : L2.St} {H : Hp} {E : XK} {D : Ends} {tz : TS} {i Lv : Nat} {tp tl : TE} {dk L : Addr} {ns : List Int} {N : Int} (h0 : Ev tp σ H (.ref dk)) (h1 : Ev tl σ H (nV Lv)) (hD : Dk H dk L ns N) (hN : N ≤ 900000000) (hL1 : 1 ≤ Lv) (hL9 : Lv ≤ 9)
    (k : ∀ H1 p rs kk, Bs H H1 dk L ns (N + 40) → Kds H H1 p rs kk → Gen Lv kk.length (rowAt kk) → kk.length + 1 ≤ 2 * Lv → tz D (σ.set i (some (.ref p))) H1) :
    tSeq (tAsg (tCall (spTree K) [] E (tCons tp (tCons tl tNil))) (gName i)) tz D σ H :=
  h0 H (Ex.refl H) _ fun H1 e1 => h1 H1 e1 _ fun H2 e2 => ⟨dk, L, ns, N, Lv, rfl, hD.ex (e1.trans e2), hN, hL1, hL9, fun H3 p rs kk b kd g n => by
    have e := e1.trans e2
    have hdk : ∃ o, H dk = some o := by obtain ⟨a, b, n, d, _⟩ := hD; exact ⟨_, d.at_⟩
    have hLs : ∃ o, H L = some o := by obtain ⟨a, b, n, d, _⟩ := hD; exact ⟨_, d.ls⟩
    have hsub : ∀ r, H2 r = none → H r = none := fun r h => fresh_back e h
    refine k H3 p rs kk ⟨fun a o h => ?_, b.deck, hdk, hLs⟩ ⟨kd.kd, hsub _ kd.bp, fun r hr => hsub _ (kd.br r hr)⟩ g n
    refine b.ex a o ?_
    by_cases z : a = dk
    · rw [z, rem_self] at h
      cases h
    · rw [rem_ne z] at h ⊢
      exact e _ _ h⟩
end
end WR
-- auto
set_option Elab.async false
set_option linter.all false
set_option maxRecDepth 100000
set_option maxHeartbeats 2000000
namespace WR
open PySem PySem.Spec PyProof.Rows L2 Evl

/-! ### _law_numbered -/
/-- the place of a kind in the order of numbers -/
def plc (k : Nat) : List Nat → Nat
  | [] => 0
  | x :: r => if x = k then 0 else plc k r + 1
theorem plc_lt {k : Nat} : ∀ {od : List Nat}, k ∈ od → plc k od < od.length
  | x :: r, h => by
    show (if x = k then 0 else plc k r + 1) < r.length + 1
    by_cases e : x = k
    · rw [if_pos e]
      omega
    · rw [if_neg e]
      have := plc_lt (k := k) (od := r) (by
        rcases List.mem_cons.mp h with z | z
        · exact absurd z.symm e
        · exact z)
      omega
theorem plc_app {k : Nat} {more : List Nat} : ∀ {od : List Nat}, k ∈ od → plc k (od ++ more) = plc k od
  | x :: r, h => by
    show (if x = k then 0 else plc k (r ++ more) + 1) = if x = k then 0 else plc k r + 1
    by_cases e : x = k
    · rw [if_pos e, if_pos e]
    · rw [if_neg e, if_neg e, plc_app (od := r) (by
        rcases List.mem_cons.mp h with z | z
        · exact absurd z.symm e
        · exact z)]
theorem plc_get {k : Nat} : ∀ {od : List Nat}, k ∈ od → od[plc k od]? = some k
  | x :: r, h => by
    show (x :: r)[if x = k then 0 else plc k r + 1]? = _
    by_cases e : x = k
    · rw [if_pos e, e]
      rfl
    · rw [if_neg e]
      exact plc_get (od := r) (by
        rcases List.mem_cons.mp h with z | z
        · exact absurd z.symm e
        · exact z)
theorem plc_at {k j : Nat} : ∀ {od : List Nat}, od.Nodup → od[j]? = some k → plc k od = j
  | od, hd, h => by
    have hm := List.mem_of_getElem? h
    have h3 := List.getElem?_eq_some_iff.mp (plc_get hm)
    have h4 := List.getElem?_eq_some_iff.mp h
    obtain ⟨a1, a2⟩ := h3
    obtain ⟨b1, b2⟩ := h4
    exact (List.getElem_inj hd).mp (a2.trans b2.symm)
def dNs : Nat → List Nat → List (Key × V)
  | _, [] => []
  | i, k :: r => (Sum.inl (k : Int), nV i) :: dNs (i + 1) r
theorem dNs_len : ∀ {i : Nat} {od : List Nat}, (dNs i od).length = od.length
  | _, [] => rfl
  | i, k :: r => by
    show (dNs (i + 1) r).length + 1 = r.length + 1
    rw [dNs_len]
theorem dNs_val {k : Nat} : ∀ {i : Nat} {od : List Nat}, valV (dNs i od) (Sum.inl (k : Int)) = if k ∈ od then some (nV (i + plc k od)) else none
  | _, [] => rfl
  | i, x :: r => by
    by_cases e : x = k
    · subst e
      rw [if_pos (List.mem_cons_self ..)]
      show valV ((Sum.inl (x : Int), nV i) :: dNs (i + 1) r) _ = some (nV (i + if x = x then 0 else _))
      rw [if_pos rfl]
      exact valV_pos rfl
    · have hn : ¬ ((Sum.inl (x : Int) : Key) = Sum.inl (k : Int)) := fun z => e (by
        have := Sum.inl.inj z
        omega)
      show valV ((Sum.inl (x : Int), nV i) :: dNs (i + 1) r) _ = if k ∈ x :: r then some (nV (i + if x = k then 0 else plc k r + 1)) else none
      rw [valV_neg hn, dNs_val, if_neg e]
      have : (k ∈ x :: r) ↔ k ∈ r := by simp [Ne.symm e]
      simp only [this]
      rw [show i + 1 + plc k r = i + (plc k r + 1) by omega]
theorem dNs_app {k : Nat} : ∀ {i : Nat} {od : List Nat}, dNs i (od ++ [k]) = dNs i od ++ [(Sum.inl (k : Int), nV (i + od.length))]
  | i, [] => rfl
  | i, x :: r => by
    show (Sum.inl (x : Int), nV i) :: dNs (i + 1) (r ++ [k]) = (Sum.inl (x : Int), nV i) :: (dNs (i + 1) r ++ [(Sum.inl (k : Int), nV (i + (r.length + 1)))])
    rw [dNs_app, show i + 1 + r.length = i + (r.length + 1) by omega]
theorem dNs_put {k : Nat} {od : List Nat} (h : k ∉ od) : putK (dNs 0 od) (Sum.inl (k : Int)) (nV od.length) = dNs 0 (od ++ [k]) := by
  rw [putK_new _ (by rw [dNs_val, if_neg h]), dNs_app, Nat.zero_add]
theorem merge_put : ∀ {more : List Nat} {od : List Nat}, (od ++ more).Nodup → mergeK (dNs 0 od) (dNs od.length more) = dNs 0 (od ++ more)
  | [], od, _ => by rw [List.append_nil]; rfl
  | k :: r, od, h => by
    have hk : k ∉ od := fun z => by
      rw [List.nodup_append] at h
      exact h.2.2 k z k (List.mem_cons_self ..) rfl
    show mergeK (putK (dNs 0 od) (Sum.inl (k : Int)) (nV od.length)) (dNs (od.length + 1) r) = _
    rw [dNs_put hk]
    have e : od.length + 1 = (od ++ [k]).length := by rw [List.length_append]; rfl
    have ea : od ++ k :: r = (od ++ [k]) ++ r := by rw [List.append_assoc]; rfl
    rw [e, ea, merge_put (by rw [← ea]; exact h)]
theorem merge_nil {od : List Nat} (h : od.Nodup) : mergeK [] (dNs 0 od) = dNs 0 od := merge_put (od := []) h
/-- the kinds in the order of their numbers, children first -/
structure Ord (L n : Nat) (K : Nat → List Nat) (od : List Nat) : Prop where
  nd : od.Nodup
  lt : ∀ k ∈ od, k < n
  lf : ∀ k, k < L → od[k]? = some k
  len : L ≤ od.length
  dn : ∀ u c, u ∈ od → c ∈ K u → c ∈ od ∧ plc c od < plc u od
theorem Ord.leaf {L n : Nat} {K : Nat → List Nat} {od : List Nat} (o : Ord L n K od) {k : Nat} (h : k < L) : k ∈ od := List.mem_of_getElem? (o.lf k h)
theorem Ord.more {L n x : Nat} {K : Nat → List Nat} {od : List Nat} (o : Ord L n K od) (hx : x ∉ od) (hn : x < n) (hc : ∀ c ∈ K x, c ∈ od) : Ord L n K (od ++ [x]) := by
  have hxp : plc x (od ++ [x]) = od.length := by
    refine plc_at ?_ ?_
    · rw [List.nodup_append]
      exact ⟨o.nd, by simp, fun a ha b hb z => hx (by rw [List.mem_singleton.mp hb] at z; exact z ▸ ha)⟩
    · rw [List.getElem?_append_right (Nat.le_refl _), Nat.sub_self]
      rfl
  refine ⟨?_, fun k hk => ?_, fun k hk => ?_, by rw [List.length_append]; have := o.len; omega, fun u c hu h => ?_⟩
  · rw [List.nodup_append]
    exact ⟨o.nd, by simp, fun a ha b hb z => hx (by rw [List.mem_singleton.mp hb] at z; exact z ▸ ha)⟩
  · rcases List.mem_append.mp hk with h | h
    · exact o.lt k h
    · rw [List.mem_singleton.mp h]
      exact hn
  · rw [List.getElem?_append_left (by have := o.len; omega)]
    exact o.lf k hk
  · rcases List.mem_append.mp hu with h1 | h1
    · obtain ⟨a, b⟩ := o.dn u c h1 h
      exact ⟨List.mem_append_left _ a, by rw [plc_app a, plc_app h1]; exact b⟩
    · rw [List.mem_singleton.mp h1] at h ⊢
      have a := hc c h
      exact ⟨List.mem_append_left _ a, by rw [plc_app a, hxp]; exact plc_lt a⟩
/-- while kinds are left, one of them is ready -/
theorem ready {L n : Nat} {K : Nat → List Nat} {x : Nat} (g : GenX L n K x) {od left : List Nat} (hne : left ≠ []) (hl : ∀ k, k < n → k ∈ od ∨ k ∈ left) : ∃ k ∈ left, ∀ c ∈ K k, c ∈ od := by
  obtain ⟨r, hr⟩ := g.rk
  have key : ∀ m, ∀ k ∈ left, r k < m → ∃ k ∈ left, ∀ c ∈ K k, c ∈ od := fun m => by
    induction m with
    | zero => exact fun k _ h => absurd h (Nat.not_lt_zero _)
    | succ m ih =>
      intro k hk hm
      by_cases z : ∀ c ∈ K k, c ∈ od
      · exact ⟨k, hk, z⟩
      · obtain ⟨c, hc⟩ := Classical.not_forall.mp z
        obtain ⟨h1, h2⟩ := Classical.not_imp.mp hc
        rcases hl c (g.lt k c h1) with h | h
        · exact absurd h h2
        · exact ih c h (by have := hr k c h1; omega)
  cases left with
  | nil => exact absurd rfl hne
  | cons k l => exact key (r k + 1) k (List.mem_cons_self ..) (Nat.lt_succ_self _)
/-- the items of the web that is told -/
def itemOf (K : Nat → List Nat) (od : List Nat) (u : Nat) : List Nat := (sortI ((K u).map fun c => ((plc c od : Nat) : Int))).map Int.toNat
/-- a web that is drawn -/
structure Drawn (L : Nat) (inner : List (List Nat)) : Prop where
  ex : ∃ kk od, Gen L kk.length (rowAt kk) ∧ kk.length ≤ L + 20 ∧ Ord L kk.length (rowAt kk) od ∧ od.length = kk.length ∧ inner = (od.drop L).map (itemOf (rowAt kk) od)
/-- the same, the children that were numbered told -/
def NumD (kk : List (List Nat)) (L : Nat) (inner : List (List Nat)) : Prop := ∃ od, Gen L kk.length (rowAt kk) ∧ kk.length ≤ L + 20 ∧ Ord L kk.length (rowAt kk) od ∧ od.length = kk.length ∧ inner = (od.drop L).map (itemOf (rowAt kk) od)
theorem NumD.drawn {kk : List (List Nat)} {L : Nat} {inner : List (List Nat)} (h : NumD kk L inner) : Drawn L inner := by
  obtain ⟨od, h⟩ := h
  exact ⟨kk, od, h⟩
def spNumb (K : PySem.W.Frag) : Sp := fun vs H Q _ => ∃ dk p B L ns N rs kk Lv, vs = [.ref dk, .ref p, nV Lv] ∧ Bs B H dk L ns N ∧ N ≤ 900000000 ∧ Kds B H p rs kk ∧ Gen Lv kk.length (rowAt kk) ∧ Lv ≤ 8 ∧ kk.length ≤ Lv + 20 ∧
  ∀ H' v inner, Bs B H' dk L ns (N + 20) → Kds B H' p rs kk → Dp K H' v (webD Lv inner) → NumD kk Lv inner → Q v H'
abbrev nNumb : List Str := ["_law_deck_here", "_law_kids_here", "_law_leaves", "_law_numbers", "_law_left", "_law_inner", "_law_kind", "_law_leaf", "_law_one_here", "_law_child"]
theorem paired_imp {α β : Type} {F G : α → β → Prop} (h : ∀ a b, F a b → G a b) : ∀ {l₁ : List α} {l₂ : List β}, Paired F l₁ l₂ → Paired G l₁ l₂
  | _, _, .nil => .nil
  | _, _, .cons a t => .cons (h _ _ a) (paired_imp h t)
theorem rgV_lo {a b : Nat} (h : a ≤ b) : rgV (a : Int) (b : Int) = nVs ((List.range (b - a)).map (a + ·)) := by
  unfold rgV nVs
  rw [show ((b : Int) - (a : Int)).toNat = b - a by omega, List.map_map]
  refine List.map_congr_left fun i _ => ?_
  show V.int ((a : Int) + (i : Int)) = V.int ((a + i : Nat) : Int)
  congr 1
theorem nVs_int {ks : List Nat} : nVs ks = (ks.map fun (k : Nat) => (k : Int)).map V.int := by
  unfold nVs
  rw [List.map_map]
  rfl
theorem ints_erase : ∀ {l : List Nat} {j : Nat}, ((l.map fun (k : Nat) => (k : Int)).eraseIdx j).map V.int = nVs (l.eraseIdx j)
  | [], _ => by simp [nVs]
  | a :: r, 0 => by
    show (r.map fun (k : Nat) => (k : Int)).map V.int = nVs r
    rw [← nVs_int]
  | a :: r, j + 1 => by
    show V.int (a : Int) :: ((r.map fun (k : Nat) => (k : Int)).eraseIdx j).map V.int = nV a :: nVs (r.eraseIdx j)
    rw [ints_erase]
    rfl
theorem nat_ints : ∀ {l : List Int}, (∀ i ∈ l, 0 ≤ i) → (l.map Int.toNat).map natD = l.map PyData.int
  | [], _ => rfl
  | i :: l, h => by
    show PyData.int ((i.toNat : Nat) : Int) :: _ = PyData.int i :: _
    rw [Int.toNat_of_nonneg (h i (List.mem_cons_self ..)), nat_ints fun j hj => h j (List.mem_cons_of_mem _ hj)]
theorem itemOf_app {K : Nat → List Nat} {od more : List Nat} {u : Nat} (h : ∀ c ∈ K u, c ∈ od) : itemOf K (od ++ more) u = itemOf K od u := by
  unfold itemOf
  rw [List.map_congr_left (g := fun c => ((plc c od : Nat) : Int)) fun c hc => by rw [plc_app (h c hc)]]
theorem itemsD {K : Nat → List Nat} {od : List Nat} {u : Nat} : kidsD (itemOf K od u) = .tuple ((sortI ((K u).map fun c => ((plc c od : Nat) : Int))).map PyData.int) := by
  unfold kidsD itemOf
  rw [nat_ints fun i hi => ?_]
  have h := (sortI_perm _).mem_iff.mp hi
  obtain ⟨c, _, rfl⟩ := List.mem_map.mp h
  omega
theorem Bs.rem {B H : Hp} {dk L r : Addr} {ns : List Int} {N : Int} (b : Bs B H dk L ns N) (h : B r = none) : Bs B (rem H r) dk L ns N := by
  have hne := b.ne h
  have hL : L ≠ r := fun z => by
    obtain ⟨o, ho⟩ := b.bL
    rw [z, h] at ho
    cases ho
  obtain ⟨x, y, n, d, hn⟩ := b.deck
  refine ⟨fun a o ha => ?_, ⟨x, y, n, ⟨?_, ?_, d.a0, d.b0, d.n0, d.len⟩, hn⟩, b.bdk, b.bL⟩
  · have har : a ≠ r := fun z => by
      rw [z, rem_ne hne, h] at ha
      cases ha
    rw [rem_ne har]
    exact b.ex a o ha
  · rw [rem_ne (Ne.symm hne)]
    exact d.at_
  · rw [rem_ne hL]
    exact d.ls
theorem Kds.rem {B H : Hp} {p r : Addr} {rs : List Addr} {kk : List (List Nat)} (k : Kds B H p rs kk) (hr : r ∉ p :: rs) : Kds B (rem H r) p rs kk := by
  rw [List.mem_cons, not_or] at hr
  refine ⟨⟨by rw [rem_ne (Ne.symm hr.1)]; exact k.kd.at_, k.kd.len, k.kd.nd, k.kd.np, fun i r' ks h1 h2 => ?_⟩, k.bp, k.br⟩
  rw [rem_ne fun (z : r' = r) => hr.2 (z ▸ List.mem_of_getElem? h1)]
  exact k.kd.row i r' ks h1 h2
section
variable {K : PySem.W.Frag} {σ : L2.St} {H H' : Hp} {ta tb te tl td ty : TE} {t : TT}
theorem ex_tK {a l : Addr} {xs : List V} {ys zs : List (Key × V)} (hl : H l = some (.dK ys)) (h : SqT K H a xs) : SqT K (upd H l (.dK zs)) a xs := by
  rcases h with (h | ⟨o, h⟩) | h
  · exact .inl (.inl (by rw [upd_ne (ne_of h hl (by intro z; cases z))]; exact h))
  · exact .inl (.inr ⟨o, by rw [upd_ne (ne_of h hl (by intro z; cases z))]; exact h⟩)
  · exact .inr h
mutual
/-- a dict that changes changes no such datum -/
theorem dp_updK {K : PySem.W.Frag} {H : Hp} {l : Addr} {ys zs : List (Key × V)} (hl : H l = some (.dK ys)) : ∀ {v : V} (d : PyData), nl d = true → Dp K H v d → Dp K (upd H l (.dK zs)) v d
  | _, .none, _, h => by cases h; exact .non
  | _, .bool _, _, h => by cases h; exact .bl _
  | _, .int _, _, h => by cases h; exact .int _
  | _, .str _, _, h => by cases h; exact .str _
  | _, .list ds, n, h => by cases n
  | _, .tuple ds, n, h => by
    cases h with
    | tup a b => exact .tup (ex_tK hl a) (dpAll_updK hl ds n b)
  | _, .dict _, _, h => by cases h
theorem dpAll_updK {K : PySem.W.Frag} {H : Hp} {l : Addr} {ys zs : List (Key × V)} (hl : H l = some (.dK ys)) : ∀ {vs : List V} (ds : List PyData), nlAll ds = true → DpAll K H vs ds → DpAll K (upd H l (.dK zs)) vs ds
  | _, [], _, h => by cases h; exact .nil
  | _, d :: ds, n, h => by
    have n' : (nl d && nlAll ds) = true := n
    rw [Bool.and_eq_true] at n'
    cases h with
    | cons a b => exact .cons (dp_updK hl d n'.1 a) (dpAll_updK hl ds n'.2 b)
end
/-- what a draw leaves as it is -/
theorem dp_draw {v : V} {dk L : Addr} {ns : List Int} {N M : Int} {d : PyData} (hD : Dk H dk L ns N) (hD' : Dk H' dk L ns M) (e : Ex (rem H dk) H') (n : nl d = true) (h : Dp K H v d) : Dp K H' v d := by
  obtain ⟨a, b, c, g, _⟩ := hD
  obtain ⟨a', b', c', g', _⟩ := hD'
  have q := dp_updL (zs := [.ref L, .int a', .int b', .int c']) g.at_ d n h
  refine dp_ex (fun x o hx => ?_) d q
  by_cases z : x = dk
  · subst z
    rw [upd_same] at hx
    rw [← hx]
    exact g'.at_
  · rw [upd_ne z] at hx
    exact e x o (by rw [rem_ne z]; exact hx)
theorem dpAll_draw {vs : List V} {dk L : Addr} {ns : List Int} {N M : Int} {ds : List PyData} (hD : Dk H dk L ns N) (hD' : Dk H' dk L ns M) (e : Ex (rem H dk) H') (n : nlAll ds = true) (h : DpAll K H vs ds) : DpAll K H' vs ds := by
  obtain ⟨a, b, c, g, _⟩ := hD
  obtain ⟨a', b', c', g', _⟩ := hD'
  have q := dpAll_updL (zs := [.ref L, .int a', .int b', .int c']) g.at_ ds n h
  refine dpAll_ex (fun x o hx => ?_) ds q
  by_cases z : x = dk
  · subst z
    rw [upd_same] at hx
    rw [← hx]
    exact g'.at_
  · rw [upd_ne z] at hx
    exact e x o (by rw [rem_ne z]; exact hx)
theorem nl_kidsD (ks : List Nat) : nl (kidsD ks) = true := by
  show nlAll (ks.map natD) = true
  exact nlAll_mem fun d hd => by
    obtain ⟨k, _, rfl⟩ := List.mem_map.mp hd
    rfl
theorem nl_kidsDs (l : List (List Nat)) : nlAll (l.map kidsD) = true := nlAll_mem fun d hd => by
  obtain ⟨k, _, rfl⟩ := List.mem_map.mp hd
  exact nl_kidsD k
theorem fm_nats {f : PyData → Option PyData} {g : Nat → Int} : ∀ {ks : List Nat}, (∀ c ∈ ks, f (natD c) = some (.int (g c))) → (natDs ks).filterMap f = (ks.map g).map PyData.int
  | [], _ => rfl
  | c :: r, h => by
    show (natD c :: natDs r).filterMap f = .int (g c) :: (r.map g).map PyData.int
    rw [List.filterMap_cons, h c (List.mem_cons_self ..), fm_nats fun x hx => h x (List.mem_cons_of_mem _ hx)]
theorem el_natLcC {j : Nat} {vs : List Nat} {a : Addr} {ks : List Nat} (g : Nat → Bool) (h : Ev tl σ H (.ref a)) (hx : SqL K H a (nVs ks)) (hz : ks.length ≤ 40000) (hw : ∀ x, wipe ((wipe σ vs).set j (some x)) vs = wipe σ vs) (hj : j < (wipe σ vs).length)
    (ht : ∀ k H1, Ex H H1 → k ∈ ks → EvT t ((wipe σ vs).set j (some (nV k))) H1 (g k)) : EvL (tLc (iList K tl) (gName j) t (tC (.int 1)) vs) σ H (nVs ((ks.filter g).map fun _ => 1)) := by
  have q := el_lcL (K := K) (xs := nVs ks) (σ := σ) (H := H) (t := t) (te := tC (.int 1)) (vs := vs) (j := j) (fun i => g (ks.getD i 0)) (fun _ => .int 1) h hx (by unfold nVs; rw [List.length_map]; exact hz) hw (fun i x H1 e hi => by
    obtain ⟨k, _, rfl, h1, hm⟩ := nVs_get hi
    rw [h1]
    exact ht k H1 e hm) (fun i x H1 e hi _ => ev_c)
  have e : (nVs ks).length = ks.length := by unfold nVs; rw [List.length_map]
  rw [e] at q
  have e2 : given ks.length (fun i => g (ks.getD i 0)) (fun _ => V.int 1) = nVs ((ks.filter g).map fun _ => 1) := by
    have e3 : given ks.length (fun i => g (ks.getD i 0)) (fun _ => V.int 1) = (given ks.length (fun i => g (ks.getD i 0)) (fun i => nV (ks.getD i 0))).map fun _ => V.int 1 := by
      unfold given
      rw [List.map_map]
      rfl
    rw [e3, given_nat]
    unfold nVs
    rw [List.map_map, List.map_map]
    rfl
  rw [e2] at q
  exact q
theorem ev_dgetK {d : Addr} {kvs : List (Key × V)} {k : Int} {v : V} (hd : Ev td σ H (.ref d)) (hk : Ev ty σ H (.int k)) (h : H d = some (.dK kvs)) (hv : valV kvs (Sum.inl k) = some v) : Ev (tDGet td ty) σ H v := fun H1 e Q q =>
  hd H1 e _ fun H2 e2 => hk H2 (e.trans e2) _ fun H3 e3 => ⟨d, v, rfl, by rw [← hv]; exact DGet.k (k := Sum.inl k) (((e.trans e2).trans e3) _ _ h), q H3 (e2.trans e3)⟩
end
section
variable {P : Program} {w : World} {K : PySem.W.Frag} {mg : Str → Option Value} {base : Heap}
abbrev scIn : Scope := { kind := ScopeKind.function, names := [(Str.ofString ".0", NameKind.local), (Str.ofString "_law_one_here", NameKind.local), (Str.ofString "_law_kids_here", NameKind.cell), (Str.ofString "_law_numbers", NameKind.cell)], isGenerator := false, isCoroutine := false, more := [] }
abbrev tPairs : TE := tLc (iRng1 (tCons (tVar 2) tNil)) (gName 7) tYes (tTup (tCons (tVar 7) (tCons (tVar 7) tNil))) [7]
abbrev tWait (K : PySem.W.Frag) : TE := tLc (iList K (tOp (rIxL K) (tVar 1) (tVar 8))) (gName 9) (tB (tDNotIn (tVar 9) (tVar 3))) (tC (.int 1)) [9]
abbrev tReady (K : PySem.W.Frag) : TE := tLc (iList K (tVar 4)) (gName 8) (tTest (tOp (rEqD K) (tWait K) (tLst tNil))) (tVar 8) [8]
abbrev tItem (K : PySem.W.Frag) : TE := tLc (iList K (tOp (rIxL K) (tVar 1) (tVar 6))) (gName 9) tYes (tDGet (tVar 3) (tVar 9)) [9]
end
end WR
-- auto
set_option Elab.async false
set_option linter.all false
set_option maxRecDepth 100000
set_option maxHeartbeats 2000000
namespace WR
open PySem PySem.Spec PyProof.Rows L2 Evl

/-! ### _law_web -/
def spLWeb (K : PySem.W.Frag) : Sp := fun vs H Q _ => ∃ dk L ns N mo mx, vs = [.ref dk, nV mo, nV mx] ∧ Dk H dk L ns N ∧ N ≤ 700000000 ∧ 1 ≤ mo ∧ mo ≤ 8 ∧ mx ≤ 1000 ∧
  ∀ H' v Lv inner, Bs H H' dk L ns (N + 100 + 4 * mx) → 1 ≤ Lv → Lv ≤ mo → Dp K H' v (webD Lv inner) → Drawn Lv inner → Q v H'
abbrev nLWeb : List Str := ["_law_deck_here", "_law_most", "_law_mixes", "_law_leaves"]
section
variable {P : Program} {w : World} {K : PySem.W.Frag} {mg : Str → Option Value} {base : Heap}
/-- what is drawn is a raw web -/
theorem Drawn.raw {L : Nat} {inner : List (List Nat)} (h : Drawn L inner) (h1 : 1 ≤ L) (h8 : L ≤ 8) : Raw L inner := by
  obtain ⟨kk, od, hG, hn, hO, hlen, rfl⟩ := h.ex
  have hll := hO.len
  have hil : ∀ u, (itemOf (rowAt kk) od u).length ≤ 30 := fun u => by
    unfold itemOf
    rw [List.length_map, (sortI_perm _).length_eq, List.length_map]
    have := nodup_len _ _ (hG.nd u) (fun c hc => hG.lt u c hc)
    omega
  refine ⟨h1, h8, by rw [List.length_map, List.length_drop]; omega, fun j ks hj k hk => ?_, fun ks hks => ?_⟩
  · rw [List.getElem?_map] at hj
    obtain ⟨u, hu, rfl⟩ := Option.map_eq_some_iff.mp hj
    rw [List.getElem?_drop] at hu
    unfold itemOf at hk
    obtain ⟨i, hi, rfl⟩ := List.mem_map.mp hk
    obtain ⟨c, hc, rfl⟩ := List.mem_map.mp ((sortI_perm _).mem_iff.mp hi)
    rw [Int.toNat_natCast]
    have := (hO.dn u c (List.mem_of_getElem? hu) hc).2
    rw [plc_at hO.nd hu] at this
    exact this
  · obtain ⟨u, _, rfl⟩ := List.mem_map.mp hks
    exact hil u
end
end WR
-- auto
set_option Elab.async false
set_option linter.all false
set_option maxRecDepth 100000
set_option maxHeartbeats 1000000
namespace WR
open PySem PySem.Spec PyProof.Rows L2 Evl

/-! ### _law_lists -/
def spLists (K : PySem.W.Frag) : Sp := fun vs H Q _ => ∃ v l inner, vs = [v] ∧ Dp K H v (webD l inner) ∧ Raw l inner ∧
  ∀ p rs H', Ex H H' → H p = none → KdAt H' p rs (List.replicate l [] ++ inner) → Q (.ref p) H'
theorem KdAt.cat {B H : Hp} {p D1 D2 : Addr} {rs1 rs2 : List Addr} {k1 k2 : List (List Nat)} (a : KdAt B D1 rs1 k1) (e : Ex B H) (b : Kds B H D2 rs2 k2) (hp : H p = none) : KdAt (upd H p (.lst (rs1.map V.ref ++ rs2.map V.ref))) p (rs1 ++ rs2) (k1 ++ k2) := by
  have en := Ex.new (o := .lst (rs1.map V.ref ++ rs2.map V.ref)) hp
  have a2 := a.ex e
  refine ⟨by rw [upd_same, List.map_append], by rw [List.length_append, List.length_append, a.len, b.kd.len], ?_, fun z => ?_, fun i r ks h1 h2 => ?_⟩
  · rw [List.nodup_append]
    refine ⟨a.nd, b.kd.nd, fun x hx y hy z => ?_⟩
    subst z
    have h0 := b.br x hy
    obtain ⟨i, hi, ei⟩ := List.mem_iff_getElem.mp hx
    have := a.row i x _ (by rw [List.getElem?_eq_getElem hi, ei]) (rowAt_get (by rw [← a.len]; exact hi))
    rw [h0] at this
    cases this
  · rcases List.mem_append.mp z with z | z
    · exact a2.fresh hp (List.mem_cons_of_mem _ z)
    · exact b.kd.fresh hp (List.mem_cons_of_mem _ z)
  · rw [List.getElem?_append] at h1 h2
    rw [a.len] at h1
    by_cases hi : i < k1.length
    · rw [if_pos hi] at h1 h2
      exact en _ _ (a2.row i r ks h1 h2)
    · rw [if_neg hi] at h1 h2
      exact en _ _ (b.kd.row _ r ks h1 h2)
end WR
set_option Elab.async false
set_option linter.all false
set_option maxRecDepth 100000
set_option maxHeartbeats 1000000
namespace WR
open PySem PySem.Spec PyProof.Rows L2 Evl
/-! ### parents, mixings, is_mixing, is_tree -/
section
variable {K : PySem.W.Frag} {σ : L2.St} {H : Hp} {ta te : TE} {t : TT} {wi : TI}
theorem et_inK {k : Nat} {ks : List Nat} (hk : Ev ta σ H (nV k)) (h : EvD K te σ H (kidsD ks)) : EvT (tTest (tOp (rIn K false) ta te)) σ H (decide (k ∈ ks)) := by
  refine et_test fun H1 e Q q => hk H1 e _ fun H2 e2 => h H2 (e.trans e2) _ fun v H3 e3 hv => ?_
  obtain ⟨a, xs, rfl, hs, hd⟩ := dp_tup hv
  have hd : DpAll K H3 xs (natDs ks) := hd
  rw [nats_of hd] at hs
  refine rv_isT (K := K) (x := nV k) hs rfl (flat_nVs ks) H3 (Ex.refl H3) Q fun H4 e4 => ?_
  rw [inV_nat]
  exact q H4 ((e2.trans e3).trans e4)
theorem fm_pick {n : Nat} {b : Nat → Bool} {f : PyData → Option PyData} (h : ∀ k : Nat, f (.int ((0 : Int) + (k : Int))) = if b k = true then some (natD k) else none) : (rngD 0 n).filterMap f = natDs ((List.range n).filter b) := by
  unfold rngD natDs
  rw [List.filterMap_map]
  generalize List.range n = l
  induction l with
  | nil => rfl
  | cons x r ih =>
    have hx : (f ∘ fun (k : Nat) => PyData.int ((0 : Int) + (k : Int))) x = if b x = true then some (natD x) else none := h x
    rw [List.filterMap_cons, List.filter_cons, hx, ih]
    cases b x with
    | true => rfl
    | false => rfl
/-- the numbers below n that .. -/
theorem en_pick {n j : Nat} {vs : List Nat} (b : Nat → Bool) (h : SrcS K wi σ H (rngD 0 n)) (hn : n ≤ 40000) (hw : ∀ x, wipe ((wipe σ vs).set j (some x)) vs = wipe σ vs) (hj : j < (wipe σ vs).length)
    (ht : ∀ k H1, Ex H H1 → k < n → EvT t ((wipe σ vs).set j (some (nV k))) H1 (b k)) : EvN K (tLc wi (gName j) t (tVar j) vs) σ H (natDs ((List.range n).filter b)) := by
  let f : PyData → Option PyData := fun d => match d with | .int i => if b i.toNat = true then some (.int i) else none | _ => none
  have hf : ∀ k : Nat, f (.int ((0 : Int) + (k : Int))) = if b k = true then some (natD k) else none := fun k => by
    show (if b ((0 : Int) + (k : Int)).toNat = true then some (PyData.int ((0 : Int) + (k : Int))) else none) = _
    rw [show ((0 : Int) + (k : Int)).toNat = k by omega, show (0 : Int) + (k : Int) = (k : Int) by omega]
    rfl
  have q := en_lc (K := K) (t := t) (te := tVar j) (j := j) (vs := vs) (ds := rngD 0 n) f h.src (by rw [rngD_len]; exact hn) hw (fun d v H1 e hd hv => by
      obtain ⟨i, hi, rfl⟩ := List.mem_map.mp hd
      rw [hf]
      rw [show (0 : Int) + (i : Int) = (i : Int) by omega] at hv
      cases dp_int hv
      refine et_is (ht i H1 e (List.mem_range.mp hi)) ?_
      cases b i with
      | true => rfl
      | false => rfl) (fun d r v H1 e hd hv hr => by
      obtain ⟨i, hi, rfl⟩ := List.mem_map.mp hd
      rw [hf] at hr
      split at hr
      · cases hr
        rw [show (0 : Int) + (i : Int) = (i : Int) by omega] at hv
        cases dp_int hv
        exact ed_i (ev_var (by rw [List.getElem?_set_self hj]))
      · cases hr) fun d r hd hr => by
      obtain ⟨i, hi, rfl⟩ := List.mem_map.mp hd
      rw [hf] at hr
      split at hr
      · cases hr
        rfl
      · cases hr
  rw [fm_pick hf] at q
  exact q
end
def parsAt (l : Nat) (inner : List (List Nat)) (k : Nat) : List Nat := (List.range (l + inner.length)).filter fun u => decide (k ∈ kidsAt l inner u)
def cK (l : Nat) (inner : List (List Nat)) (k : Nat) : Int := (cnts l inner).getD k 0
def mixL (l : Nat) (inner : List (List Nat)) : List Nat := (List.range (l + inner.length)).filter fun k => decide (1 < cK l inner k)
theorem cK_at {l : Nat} {inner : List (List Nat)} {k : Nat} (h : k < l + inner.length) : ((cnts l inner).map PyData.int)[k]? = some (.int (cK l inner k)) := by
  have hl : (cnts l inner).length = l + inner.length := cntF_len _ _
  unfold cK
  rw [List.getElem?_map, List.getD_eq_getElem?_getD, List.getElem?_eq_getElem (by omega)]
  rfl
end WR
set_option Elab.async false
set_option linter.all false
set_option maxRecDepth 100000
set_option maxHeartbeats 1000000
namespace WR
open PySem PySem.Spec PyProof.Rows L2 Evl
/-! ### the law's lists and the web -/
def kkOf (l : Nat) (inner : List (List Nat)) : List (List Nat) := List.replicate l [] ++ inner
theorem kkOf_len {l : Nat} {inner : List (List Nat)} : (kkOf l inner).length = l + inner.length := by
  unfold kkOf
  rw [List.length_append, List.length_replicate]
theorem rowAt_kk {l u : Nat} {inner : List (List Nat)} : rowAt (kkOf l inner) u = kidsAt l inner u := by
  unfold rowAt kkOf kidsAt
  rw [List.getD_eq_getElem?_getD, List.getElem?_append, List.length_replicate]
  by_cases h : u < l
  · rw [if_pos h, if_pos h, List.getElem?_replicate, if_pos h]
    rfl
  · rw [if_neg h, if_neg h, List.getD_eq_getElem?_getD]
theorem ups_kk {l k : Nat} {inner : List (List Nat)} : upsL (kkOf l inner) k = parsAt l inner k := by
  unfold upsL parsAt
  rw [kkOf_len]
  congr 1
  funext u
  have h : (kkOf l inner).getD u [] = kidsAt l inner u := rowAt_kk
  rw [h]
theorem bump_at {cs : List Int} {c k : Nat} (hk : k < cs.length) : (bump cs c).getD k 0 = cs.getD k 0 + (if c = k then 1 else 0) := by
  unfold bump
  rw [List.getD_eq_getElem?_getD, List.getElem?_set]
  by_cases e : c = k
  · subst e
    rw [if_pos rfl, if_pos rfl, if_pos hk]
    rfl
  · rw [if_neg e, if_neg e, List.getD_eq_getElem?_getD]
    omega
theorem bumpAll_at {k : Nat} : ∀ {ks : List Nat} {cs : List Int}, ks.Nodup → k < cs.length → (bumpAll cs ks).getD k 0 = cs.getD k 0 + (if k ∈ ks then 1 else 0)
  | [], cs, _, _ => by
    rw [if_neg (List.not_mem_nil)]
    show cs.getD k 0 = _
    omega
  | c :: r, cs, hd, hk => by
    rw [List.nodup_cons] at hd
    show (bumpAll (bump cs c) r).getD k 0 = _
    rw [bumpAll_at hd.2 (by rw [bump_len]; exact hk), bump_at hk]
    by_cases e : c = k
    · subst e
      rw [if_pos rfl, if_neg hd.1, if_pos (List.mem_cons_self ..)]
      omega
    · have : (k ∈ c :: r) ↔ k ∈ r := by simp [Ne.symm e]
      rw [if_neg e]
      simp only [this]
      omega
theorem cnts_cnt {l k : Nat} {inner : List (List Nat)} (hnd : ∀ ks ∈ inner, ks.Nodup) (hk : k < l + inner.length) : ∀ i, i ≤ inner.length → (cntF (l + inner.length) (inner.take i)).getD k 0 = ((cnt (kidsAt l inner) k (l + i) : Nat) : Int)
  | 0, _ => by
    have h0 : cnt (kidsAt l inner) k (l + 0) = 0 := cnt_out fun u hu h => by
      unfold kidsAt at h
      rw [if_pos (by omega)] at h
      cases h
    rw [h0, List.take_zero]
    show (List.replicate (l + inner.length) (0 : Int)).getD k 0 = 0
    rw [List.getD_eq_getElem?_getD, List.getElem?_replicate]
    split <;> rfl
  | i + 1, hi => by
    have hil : i < inner.length := by omega
    have hg : inner[i]? = some inner[i] := List.getElem?_eq_getElem hil
    have hk2 : kidsAt l inner (l + i) = inner[i] := by
      unfold kidsAt
      rw [if_neg (by omega), show l + i - l = i by omega, List.getD_eq_getElem?_getD, hg]
      rfl
    rw [cntF_take hg, bumpAll_at (hnd _ (List.getElem_mem hil)) (by rw [cntF_len]; exact hk), cnts_cnt hnd hk i (by omega)]
    show _ = ((cnt (kidsAt l inner) k (l + i) + (if k ∈ kidsAt l inner (l + i) then 1 else 0) : Nat) : Int)
    rw [hk2]
    split <;> simp
theorem cK_pars {l k : Nat} {inner : List (List Nat)} (hnd : ∀ ks ∈ inner, ks.Nodup) (hk : k < l + inner.length) : cK l inner k = ((parsAt l inner k).length : Int) := by
  have h := cnts_cnt hnd hk inner.length (Nat.le_refl _)
  rw [List.take_length] at h
  unfold cK cnts
  rw [h, ← ups_kk, cnt_ups, kkOf_len]
  have e : rowAt (kkOf l inner) = kidsAt l inner := funext fun u => rowAt_kk
  rw [e]
/-- no item of a drawn web has a kind twice -/
theorem plc_inj {a b : Nat} {od : List Nat} (ha : a ∈ od) (hb : b ∈ od) (h : plc a od = plc b od) : a = b := by
  have h1 := plc_get ha
  have h2 := plc_get hb
  rw [h, h2] at h1
  exact (Option.some.inj h1).symm
theorem Drawn.nd {L : Nat} {inner : List (List Nat)} (h : Drawn L inner) : ∀ ks ∈ inner, ks.Nodup := by
  obtain ⟨kk, od, hG, hn, hO, hlen, rfl⟩ := h.ex
  intro ks hks
  obtain ⟨u, hu, rfl⟩ := List.mem_map.mp hks
  have hum := List.mem_of_mem_drop hu
  unfold itemOf
  have h1 : ((rowAt kk u).map fun c => ((plc c od : Nat) : Int)).Nodup := by
    refine List.pairwise_map.mpr ((hG.nd u).imp_of_mem fun {a b} ha hb hab z => hab ?_)
    exact plc_inj (hO.dn u a hum ha).1 (hO.dn u b hum hb).1 (by omega)
  have h2 := ((sortI_perm ((rowAt kk u).map fun c => ((plc c od : Nat) : Int))).nodup_iff).mpr h1
  refine List.pairwise_map.mpr (h2.imp_of_mem fun {a b} ha hb hab z => hab ?_)
  obtain ⟨x, _, rfl⟩ := List.mem_map.mp ((sortI_perm _).mem_iff.mp ha)
  obtain ⟨y, _, rfl⟩ := List.mem_map.mp ((sortI_perm _).mem_iff.mp hb)
  rw [Int.toNat_natCast, Int.toNat_natCast] at z
  omega
theorem mixL_eq {l : Nat} {inner : List (List Nat)} (hnd : ∀ ks ∈ inner, ks.Nodup) : mixL l inner = (List.range (l + inner.length)).filter fun k => decide ((1 : Int) < ((parsAt l inner k).length : Int)) := by
  unfold mixL
  refine List.filter_congr fun k hk => ?_
  rw [cK_pars hnd (List.mem_range.mp hk)]
end WR
set_option Elab.async false
set_option linter.all false
set_option maxRecDepth 100000
set_option maxHeartbeats 1000000
namespace WR
open PySem PySem.Spec PyProof.Rows L2 Evl
/-! ### links -/
def prD (u c : Nat) : PyData := .tuple [natD u, natD c]
def linksTo (l : Nat) (inner : List (List Nat)) (n : Nat) : List PyData := (List.range n).flatMap fun u => (kidsAt l inner u).map (prD u)
theorem linksTo_succ {l n : Nat} {inner : List (List Nat)} : linksTo l inner (n + 1) = linksTo l inner n ++ (kidsAt l inner n).map (prD n) := by
  unfold linksTo
  rw [List.range_succ, List.flatMap_append]
  simp
theorem kl30 {l : Nat} {inner : List (List Nat)} {k : Nat} (hw : Raw l inner) : (kidsAt l inner k).length ≤ 30 := by
  unfold kidsAt
  by_cases h : k < l
  · rw [if_pos h]
    exact Nat.zero_le _
  · rw [if_neg h, List.getD_eq_getElem?_getD]
    cases e : inner[k - l]? with
    | none => exact Nat.zero_le _
    | some ks => exact hw.len ks (List.mem_of_getElem? e)
theorem linksTo_len {l : Nat} {inner : List (List Nat)} (hw : Raw l inner) : ∀ n, (linksTo l inner n).length ≤ 30 * n
  | 0 => Nat.le_refl _
  | n + 1 => by
    rw [linksTo_succ, List.length_append, List.length_map]
    have := linksTo_len hw n
    have := kl30 (k := n) hw
    omega
theorem nl_prs (u : Nat) (ks : List Nat) : nlAll (ks.map (prD u)) = true := nlAll_mem fun d hd => by
  obtain ⟨c, _, rfl⟩ := List.mem_map.mp hd
  rfl
theorem nl_links {l : Nat} {inner : List (List Nat)} {n : Nat} : nlAll (linksTo l inner n) = true := nlAll_mem fun d hd => by
  unfold linksTo at hd
  obtain ⟨u, _, h⟩ := List.mem_flatMap.mp hd
  obtain ⟨c, _, rfl⟩ := List.mem_map.mp h
  rfl
theorem nlAll_app {a b : List PyData} (ha : nlAll a = true) (hb : nlAll b = true) : nlAll (a ++ b) = true := nlAll_mem fun d hd => by
  rcases List.mem_append.mp hd with h | h
  · exact nlAll_of ha d h
  · exact nlAll_of hb d h
end WR
set_option Elab.async false
set_option linter.all false
set_option maxRecDepth 100000
set_option maxHeartbeats 1000000
namespace WR
open PySem PySem.Spec PyProof.Rows L2 Evl

/-! ### data small enough to be shown -/
structure Sm (w dp : Nat) (d : PyData) : Prop where
  sh : d.showable = true
  nd : d.hasDict = false
  ls : d.leavesShort 60 = true
  wt : d.weight ≤ w
  dp : d.depth ≤ dp
structure SmL (w dp : Nat) (ds : List PyData) : Prop where
  sh : PyData.showableAll ds = true
  nd : PyData.hasDictAll ds = false
  ls : PyData.leavesShortAll 60 ds = true
  wt : PyData.weightAll ds ≤ w
  dp : PyData.depthAll ds ≤ dp
theorem Sm.ok {w dp : Nat} {d : PyData} (h : Sm w dp d) (hw : w ≤ 250000) (hd : dp ≤ 40) : okR d = true := by
  have h1 := PyData.shown_le 60 (by decide) d h.ls
  have h3 := h.wt
  have h4 : d.shown.length ≤ sizeLine := by
    show d.shown.length ≤ 2 ^ 24
    have e : (2 : Nat) ^ 24 = 16777216 := by decide
    omega
  have h2 := h.dp
  unfold okR
  rw [h.sh, h.nd, decide_eq_true h4, decide_eq_true (show d.depth ≤ 40 by omega)]
  rfl
theorem Sm.up {w dp w' dp' : Nat} {d : PyData} (h : Sm w dp d) (hw : w ≤ w') (hd : dp ≤ dp') : Sm w' dp' d :=
  ⟨h.sh, h.nd, h.ls, Nat.le_trans h.wt hw, Nat.le_trans h.dp hd⟩
theorem log_lt {n k : Nat} (h : n < 2 ^ k) (hk : 0 < k) : n.log2 < k := by
  by_cases z : n = 0
  · rw [z]
    exact hk
  · exact (Nat.log2_lt z).mpr h
theorem sm_intB {i : Int} {b : Nat} (h : i.natAbs < 10 ^ 45) (hb : i.natAbs < 2 ^ b) (h0 : 0 < b) (h9 : b ≤ 1000) : Sm b 0 (.int i) := by
  have hl := log_lt hb h0
  refine ⟨?_, ?_, ?_, ?_, ?_⟩
  · simp only [PyData.showable]
    exact decide_eq_true (by omega)
  · simp only [PyData.hasDict]
  · simp only [PyData.leavesShort]
    have e := int_text_length_le10 (k := 45) (by decide) h
    have e2 : (PyData.shown (.int i)).length = (toString i).length := PySem.ofString_length _
    exact decide_eq_true (by omega)
  · simp only [PyData.weight]
    split <;> omega
  · simp only [PyData.depth]
    exact Nat.le_refl 0
theorem sm_int {i : Int} (h : i.natAbs < 1000000000000) : Sm 41 0 (.int i) :=
  sm_intB (Nat.lt_of_lt_of_le h (by decide)) (Nat.lt_of_lt_of_le h (by decide)) (by decide) (by decide)
theorem sm_big {i : Int} (h : i.natAbs < 10 ^ 45) : Sm 150 0 (.int i) := sm_intB h (Nat.lt_of_lt_of_le h (by decide)) (by decide) (by decide)
theorem sm_nat {k : Nat} (h : k < 1000000000000) : Sm 41 0 (natD k) := sm_int (by show (k : Int).natAbs < _; omega)
theorem sm_bool {b : Bool} : Sm 0 0 (.bool b) := by
  refine ⟨?_, ?_, ?_, ?_, ?_⟩ <;> simp only [PyData.showable, PyData.hasDict, PyData.leavesShort, PyData.weight, PyData.depth, Nat.le_refl]
theorem sm_none : Sm 0 0 .none := by
  refine ⟨?_, ?_, ?_, ?_, ?_⟩ <;> simp only [PyData.showable, PyData.hasDict, PyData.leavesShort, PyData.weight, PyData.depth, Nat.le_refl]
theorem smL_nil {dp : Nat} : SmL 0 dp [] := by
  refine ⟨?_, ?_, ?_, ?_, ?_⟩ <;> simp [PyData.showableAll, PyData.hasDictAll, PyData.leavesShortAll, PyData.weightAll, PyData.depthAll]
theorem smL_cons {w w' dp dp' : Nat} {d : PyData} {ds : List PyData} (q : Sm w dp' d) (hp : dp' ≤ dp) (h : SmL w' dp ds) : SmL (w + 1 + w') dp (d :: ds) := by
  obtain ⟨a, b, c, e, f⟩ := h
  have q1 := q.wt
  have q2 := q.dp
  refine ⟨?_, ?_, ?_, ?_, ?_⟩
  · simp only [PyData.showableAll, q.sh, a, Bool.and_self]
  · simp only [PyData.hasDictAll, q.nd, b, Bool.or_self]
  · simp only [PyData.leavesShortAll, q.ls, c, Bool.and_self]
  · simp only [PyData.weightAll]
    omega
  · simp only [PyData.depthAll]
    omega
theorem SmL.up {w w' dp dp' : Nat} {ds : List PyData} (h : SmL w dp ds) (hw : w ≤ w') (hd : dp ≤ dp') : SmL w' dp' ds :=
  ⟨h.sh, h.nd, h.ls, Nat.le_trans h.wt hw, Nat.le_trans h.dp hd⟩
theorem sm_all {w dp : Nat} : ∀ {ds : List PyData}, (∀ d ∈ ds, Sm w dp d) → SmL (ds.length * (w + 1)) dp ds
  | [], _ => by
    rw [List.length_nil, Nat.zero_mul]
    exact smL_nil
  | d :: ds, h => by
    refine (smL_cons (h d (List.mem_cons_self ..)) (Nat.le_refl dp) (sm_all (ds := ds) fun x hx => h x (List.mem_cons_of_mem _ hx))).up ?_ (Nat.le_refl dp)
    rw [List.length_cons, Nat.add_mul, Nat.one_mul]
    omega
theorem SmL.tup {w dp : Nat} {ds : List PyData} (h : SmL w dp ds) : Sm w (dp + 1) (.tuple ds) := by
  obtain ⟨a, b, c, e, f⟩ := h
  refine ⟨?_, ?_, ?_, ?_, ?_⟩
  · simp only [PyData.showable, a]
  · simp only [PyData.hasDict, b]
  · simp only [PyData.leavesShort, c]
  · simp only [PyData.weight]
    omega
  · simp only [PyData.depth]
    omega
theorem SmL.lst {w dp : Nat} {ds : List PyData} (h : SmL w dp ds) : Sm w (dp + 1) (.list ds) := by
  obtain ⟨a, b, c, e, f⟩ := h
  refine ⟨?_, ?_, ?_, ?_, ?_⟩
  · simp only [PyData.showable, a]
  · simp only [PyData.hasDict, b]
  · simp only [PyData.leavesShort, c]
  · simp only [PyData.weight]
    omega
  · simp only [PyData.depth]
    omega
theorem sm_tup {w dp n : Nat} {ds : List PyData} (h : ∀ d ∈ ds, Sm w dp d) (hn : ds.length ≤ n) : Sm (n * (w + 1)) (dp + 1) (.tuple ds) :=
  ((sm_all h).up (Nat.mul_le_mul_right _ hn) (Nat.le_refl _)).tup
theorem sm_lst {w dp n : Nat} {ds : List PyData} (h : ∀ d ∈ ds, Sm w dp d) (hn : ds.length ≤ n) : Sm (n * (w + 1)) (dp + 1) (.list ds) :=
  ((sm_all h).up (Nat.mul_le_mul_right _ hn) (Nat.le_refl _)).lst
theorem sm_nats {n m : Nat} {ks : List Nat} (h : ∀ k ∈ ks, k < m) (hm : m ≤ 1000000000000) (hn : ks.length ≤ n) : Sm (n * 42) 1 (kidsD ks) :=
  sm_tup (w := 41) (dp := 0) (fun d hd => by
    obtain ⟨k, hk, rfl⟩ := List.mem_map.mp hd
    exact sm_nat (by have := h k hk; omega)) (by rw [List.length_map]; exact hn)
theorem raw_lt {l : Nat} {inner : List (List Nat)} (hw : Raw l inner) {ks : List Nat} (h : ks ∈ inner) : ∀ k ∈ ks, k < l + inner.length := fun k hk => by
  obtain ⟨j, hj, e⟩ := List.mem_iff_getElem.mp h
  have := hw.lt j ks (by rw [List.getElem?_eq_getElem hj, e]) k hk
  omega
theorem kidsAt_lt {l : Nat} {inner : List (List Nat)} (hw : Raw l inner) {u k : Nat} (h : k ∈ kidsAt l inner u) : k < l + inner.length ∧ k < u := by
  unfold kidsAt at h
  by_cases z : u < l
  · rw [if_pos z] at h
    cases h
  · rw [if_neg z, List.getD_eq_getElem?_getD] at h
    cases e : inner[u - l]? with
    | none =>
      rw [e] at h
      cases h
    | some ks =>
      rw [e] at h
      have hk : k ∈ ks := h
      have := hw.lt _ _ e k hk
      have := (List.getElem?_eq_some_iff.mp e).1
      omega
theorem sm_web {l : Nat} {inner : List (List Nat)} (hw : Raw l inner) : Sm 60000 3 (webD l inner) := by
  have h8 := hw.l8
  have h20 := hw.n20
  have h1 : Sm 25220 2 (.tuple (inner.map kidsD)) := sm_tup (n := 20) (w := 1260) (dp := 1) (fun d hd => by
    obtain ⟨ks, hks, rfl⟩ := List.mem_map.mp hd
    exact sm_nats (n := 30) (m := 28) (fun k hk => by have := raw_lt hw hks k hk; omega) (by decide) (hw.len ks hks)) (by rw [List.length_map]; exact h20)
  exact (sm_tup (ds := [natD l, .tuple (inner.map kidsD)]) (n := 2) (w := 25220) (dp := 2) (fun d hd => by
    rcases List.mem_cons.mp hd with rfl | hd
    · exact (sm_nat (by omega)).up (by omega) (by omega)
    · rw [List.mem_singleton.mp hd]
      exact h1) (by simp)).up (by decide) (by decide)
theorem sml_kk {l : Nat} {inner : List (List Nat)} (hw : Raw l inner) : Sml (kkOf l inner) := by
  have h8 := hw.l8
  have h20 := hw.n20
  refine ⟨by rw [kkOf_len]; omega, fun ks hks => ?_⟩
  unfold kkOf at hks
  rcases List.mem_append.mp hks with h | h
  · rw [List.eq_of_mem_replicate h]
    exact Nat.zero_le _
  · have := hw.len ks h
    omega

/-! ### words for the laws -/
section
variable {K : PySem.W.Frag} {σ : L2.St} {H H' : Hp} {ta tb te tx t1 t2 t3 : TE} {D : Ends} {tz tu : TS} {d : PyData} {ds es : List PyData} {p : Addr} {rs : List Addr} {kk : List (List Nat)} {k l : Nat} {ks : List Nat} {inner : List (List Nat)} {v : V}
theorem ed_el (h : EvL te σ H (nVs ks)) : EvD K te σ H (.list (natDs ks)) := fun H1 e Q q => h H1 e _ fun p H2 _ e2 hx => q _ H2 e2 (.lst (sq_of hx) (dpAll_nat ks))
theorem ed_row (h : KdAt H p rs kk) (hk : k < kk.length) (ha : Ev ta σ H (.ref p)) (hb : Ev tb σ H (nV k)) : EvD K (tOp (rIxL K) ta tb) σ H (.list (natDs (rowAt kk k))) := by
  obtain ⟨r, h1, h2⟩ := h.get (rowAt_get hk)
  exact ed_ev (ev_row h h1 ha hb) (.lst (sq_of h2) (dpAll_nat _))
theorem ev_inK (hk : Ev ta σ H (nV k)) (h : EvD K te σ H (kidsD ks)) : Ev (tOp (rIn K false) ta te) σ H (.bl (decide (k ∈ ks))) := fun H1 e Q q => hk H1 e _ fun H2 e2 => h H2 (e.trans e2) _ fun v H3 e3 hv => by
  obtain ⟨a, xs, rfl, hs, hd⟩ := dp_tup hv
  have hd : DpAll K H3 xs (natDs ks) := hd
  rw [nats_of hd] at hs
  refine rv_isT (K := K) (x := nV k) hs rfl (flat_nVs ks) H3 (Ex.refl H3) Q fun H4 e4 => ?_
  rw [inV_nat]
  exact q H4 ((e2.trans e3).trans e4)
/-- web = _law_web(deck, ..) -/
theorem q_lweb {E : XK} {i mo : Nat} {dk L : Addr} {ns : List Int} {N : Int} (h1 : Ev t1 σ H (.ref dk)) (h2 : Ev t2 σ H (nV mo)) (hD : Dk H dk L ns N) (hN : N ≤ 600000000) (m1 : 1 ≤ mo) (m8 : mo ≤ 8)
    (h3 : ∀ H1, Ex H H1 → ∀ Q : VK, (∀ (mx : Nat) H2, mx ≤ 9 → Ex (rem H1 dk) H2 → Dk H2 dk L ns (N + 1) → Q (nV mx) H2) → t3 σ H1 Q)
    (k : ∀ H' v Lv inner, Bs H H' dk L ns (N + 137) → 1 ≤ Lv → Lv ≤ mo → Dp K H' v (webD Lv inner) → Drawn Lv inner → tz D (σ.set i (some v)) H') :
    tSeq (tAsg (tCall (spLWeb K) [] E (tCons t1 (tCons t2 (tCons t3 tNil)))) (gName i)) tz D σ H :=
  h1 H (Ex.refl H) _ fun H1 e1 => h2 H1 e1 _ fun H2 e2 => h3 H2 (e1.trans e2) _ fun mx H3 hm e3 d3 => ⟨dk, L, ns, _, mo, mx, rfl, d3, by omega, m1, m8, by omega, fun H4 v Lv inner b l1 l2 hv hw => by
    have hdk : ∃ o, H dk = some o := by obtain ⟨a, b, n, d, _⟩ := hD; exact ⟨_, d.at_⟩
    have hLs : ∃ o, H L = some o := by obtain ⟨a, b, n, d, _⟩ := hD; exact ⟨_, d.ls⟩
    exact k H4 v Lv inner ⟨rem_trans ((rem_mono (e1.trans e2)).trans e3) b.ex, (b.wk (show _ ≤ N + 137 by omega)).deck, hdk, hLs⟩ l1 l2 hv hw⟩
/-- the last argument is _law_one(deck, [..]) -/
theorem lweb_one {E : XK} {ta' : TA} {dk L : Addr} {ns : List Int} {N : Int} {cs : List Nat} (h1 : Ev t1 σ H (.ref dk)) (hD : Dk H dk L ns N) (hN : N ≤ 600000000) (hc : EvA ta' σ H (nVs cs)) (c0 : cs ≠ []) (c1 : cs.length ≤ 1000) (c9 : ∀ c ∈ cs, c ≤ 9) :
    ∀ H1, Ex H H1 → ∀ Q : VK, (∀ (mx : Nat) H2, mx ≤ 9 → Ex (rem H1 dk) H2 → Dk H2 dk L ns (N + 1) → Q (nV mx) H2) → tCall (spOne K) [] E (tCons t1 (tCons (tLst ta') tNil)) σ H1 Q := fun H1 e1 Q q =>
  h1 H1 e1 _ fun H2 e2 => hc H2 (e1.trans e2) _ fun H3 e3 => ⟨sz_of (by unfold nVs; rw [List.length_map]; omega), fun li hli => by
    have d3 := (hD.ex (e1.trans e2)).ex e3
    have d4 := d3.ex (Ex.new (o := .lst (nVs cs)) hli)
    have hne : li ≠ dk := fun z => by
      obtain ⟨a, b, n, d, _⟩ := d3
      rw [z, d.at_] at hli
      cases hli
    refine ⟨dk, L, ns, N, li, nVs cs, rfl, d4, by omega, upd_same, hne, ?_, by unfold nVs; rw [List.length_map]; omega, fun x H5 hx e5 d5 => ?_⟩
    · unfold nVs
      rw [List.length_map]
      cases cs with
      | nil => exact absurd rfl c0
      | cons _ _ => simp
    · obtain ⟨c, hc', rfl⟩ := List.mem_map.mp hx
      exact q c H5 (c9 c hc') ((rem_mono ((e2.trans e3).trans (Ex.new (o := .lst (nVs cs)) hli))).trans e5) d5⟩
theorem lweb_c {dk L : Addr} {ns : List Int} {N : Int} {mx : Nat} (hD : Dk H dk L ns N) (hm : mx ≤ 9) :
    ∀ H1, Ex H H1 → ∀ Q : VK, (∀ (mx : Nat) H2, mx ≤ 9 → Ex (rem H1 dk) H2 → Dk H2 dk L ns (N + 1) → Q (nV mx) H2) → tC (nV mx) σ H1 Q := fun H1 e1 Q q =>
  q mx H1 hm rem_ex (by
    obtain ⟨a, b, n, d, hn⟩ := hD
    exact ⟨a, b, n, d.ex e1, by omega⟩)
/-- kids, held = _law_lists(web), repr(web) -/
theorem q_lists {E : XK} {w i j : Nat} (h : σ[w]? = some (some v)) (hv : Dp K H v (webD l inner)) (hw : Raw l inner)
    (c : ∀ p rs H1, H p = none → Ex H H1 → KdAt H1 p rs (kkOf l inner) → tz D ((σ.set i (some (.ref p))).set j (some (.str (webD l inner).shown))) H1) :
    tSeq (tAsg (tTup (tCons (tCall (spLists K) [] E (tCons (tVar w) tNil)) (tCons (tCB (rReprA K) (tCons (tVar w) tNil)) tNil))) (gTup K 2 (gCons (gName i) (gCons (gName j) gNil)))) tz D σ H :=
  ⟨v, h, v, l, inner, rfl, hv, hw, fun p rs H1 e1 hp kd => (ev_repr (K := K) (ed_var h (dp_ex e1 _ hv)) ((sm_web hw).ok (by decide) (by decide)) : Ev _ σ H1 _) H1 (Ex.refl H1) _ fun H2 e2 =>
    ⟨by show 2 ≤ sizeLine; decide, fun t ht => ⟨t, _, rfl, st_of upd_same, rfl, _, _, rfl, _, _, rfl, rfl, c p rs _ hp ((e1.trans e2).trans (Ex.new ht)) ((kd.ex e2).ex (Ex.new ht))⟩⟩⟩
/-- xs.extend(a new list of data) -/
theorem q_extD {q : Addr} (hl : LD K H q ds) (ha : Ev ta σ H (.ref q)) (h : EvN K te σ H es) (hz : ds.length + es.length ≤ 100000) (hn : nlAll ds = true) (hd : nlAll es = true)
    (k : ∀ H1, (∀ B : Hp, Ex B H → B q = none → Ex B H1) → LD K H1 q (ds ++ es) → tz D σ H1) :
    tSeq (tDrop (tBM K "list" rExtend ta (tCons te tNil))) tz D σ H := ha H (Ex.refl H) _ fun H1 e1 => by
  obtain ⟨xs, h1, h2⟩ := hl
  refine ⟨.inl ⟨rfl, xs, sq_of (e1 q _ h1)⟩, h H1 e1 _ fun b ys H2 hb e2 hb2 hy => ?_⟩
  have h3 := e2 q _ (e1 q _ h1)
  refine ⟨q, b, xs, ys, rfl, rfl, h3, hb2, sz_of (by rw [dpAll_len h2, dpAll_len hy]; exact hz), k _ (fun B eb hb => Ex.mut ((eb.trans e1).trans e2) hb) ⟨_, upd_same, ?_⟩⟩
  exact dpAll_app (dpAll_updL h3 _ hn (dpAll_ex (e1.trans e2) _ h2)) (dpAll_updL h3 _ hd hy)
/-- due[1:3] -/
theorem en_sl13 {d0 d1 d2 : PyData} (h : EvD K te σ H (.list (d0 :: d1 :: d2 :: ds))) : EvN K (tSl (rSlL K) te (tPart (tC (.int 1))) (tPart (tC (.int 3)))) σ H [d1, d2] := fun H1 e Q q =>
  h H1 e _ fun v H2 e2 hv => by
    obtain ⟨a, xs, rfl, hs, hd⟩ := dp_lst hv
    obtain ⟨x0, x1, x2, xr, rfl, a1, a2⟩ : ∃ x0 x1 x2 xr, xs = x0 :: x1 :: x2 :: xr ∧ Dp K H2 x1 d1 ∧ Dp K H2 x2 d2 := by
      cases hd with
      | cons a0 hd =>
        cases hd with
        | cons a1 hd =>
          cases hd with
          | cons a2 hd => exact ⟨_, _, _, _, rfl, a1, a2⟩
    refine ⟨1, rfl, 3, rfl, a, _, rfl, hs, fun c nc => ?_⟩
    have hc : cutV (x0 :: x1 :: x2 :: xr) (some 1) (some 3) = [x1, x2] := by
      unfold cutV
      rw [show HT.sIx (x0 :: x1 :: x2 :: xr).length 0 (some 1) = min 1 (x0 :: x1 :: x2 :: xr).length from HT.sIx_nat _ _ 1, show HT.sIx (x0 :: x1 :: x2 :: xr).length (x0 :: x1 :: x2 :: xr).length (some 3) = min 3 (x0 :: x1 :: x2 :: xr).length from HT.sIx_nat _ _ 3]
      rw [Nat.min_eq_left (by simp), Nat.min_eq_left (by simp)]
      rfl
    rw [hc]
    exact q c _ _ (fresh_back e2 nc) (e2.trans (Ex.new nc)) upd_same (.cons (dp_ex (Ex.new nc) _ a1) (.cons (dp_ex (Ex.new nc) _ a2) .nil))
end
theorem eqvT_nil : ∀ ks : List Nat, PyData.eqv (.tuple (natDs ks)) (.tuple []) = ks.isEmpty
  | [] => by simp [natDs, PyData.eqv, PyData.eqvAll]
  | _ :: _ => by simp [natDs, PyData.eqv, PyData.eqvAll]
theorem shapedT_nats (ks : List Nat) : SeqAt.shaped (.tuple (natDs ks)) = true := by
  have e : natDs ks = (ks.map fun (k : Nat) => (k : Int)).map PyData.int := by
    unfold natDs
    rw [List.map_map]
    rfl
  rw [e]
  have q := lay_ints (ks.map fun (k : Nat) => (k : Int))
  show (PyData.canLay0 _ && decide (PyData.depth _ ≤ 64)) = true
  simp only [PyData.canLay0, PyData.depth, q.1, q.2]
  decide
/-- a tuple of kinds == () -/
theorem ev_eqNilT {K : PySem.W.Frag} {σ : L2.St} {H : Hp} {ta : TE} {ks : List Nat} (h : EvD K ta σ H (kidsD ks)) : Ev (tOp (rEqD K) ta (tTup tNil)) σ H (.bl ks.isEmpty) := fun H1 e Q q =>
  h H1 e _ fun v H2 e2 hv => ⟨by show 0 ≤ sizeLine; decide, fun p hp => ⟨.tuple (natDs ks), .tuple [], dp_ex (Ex.new hp) (kidsD ks) hv, .tup (st_of upd_same) .nil, shapedT_nats ks, shapedT_nats [], by
    rw [eqvT_nil]
    exact q _ (e2.trans (Ex.new hp))⟩⟩
end WR
set_option Elab.async false
set_option linter.all false
set_option maxRecDepth 100000
set_option maxHeartbeats 1000000
namespace WR
open PySem PySem.Spec PyProof.Rows L2 Evl
/-! ### beneath -/
noncomputable def rchB (kk : List (List Nat)) (k x : Nat) : Bool := @decide (Rch kk k x) (Classical.propDecidable _)
theorem rchB_iff {kk : List (List Nat)} {k x : Nat} : rchB kk k x = true ↔ Rch kk k x := by
  unfold rchB
  exact @decide_eq_true_iff _ (Classical.propDecidable _)
theorem rch_le {kk : List (List Nat)} (hd : ∀ u c, c ∈ rowAt kk u → c < u) {k x : Nat} (h : Rch kk k x) : x ≤ k :=
  h (fun y => y ≤ k) (Nat.le_refl k) fun u c hu hc => by have := hd u c hc; omega
noncomputable def benL (l : Nat) (inner : List (List Nat)) (k : Nat) : List Nat := (List.range k).filter (rchB (kkOf l inner) k)
/-- the marks, kinds from j on are done -/
structure Mk (kk : List (List Nat)) (k j : Nat) (bs : List Bool) : Prop where
  len : bs.length = k + 1
  top : bs[k]? = some true
  snd : ∀ x, bs[x]? = some true → Rch kk k x
  shut : ∀ w, j ≤ w → w ≤ k → bs[w]? = some true → ∀ c ∈ rowAt kk w, bs[c]? = some true
def markAll (bs : List Bool) (ks : List Nat) : List Bool := ks.foldl (fun b c => b.set c true) bs
theorem markAll_len : ∀ (ks : List Nat) (bs : List Bool), (markAll bs ks).length = bs.length
  | [], _ => rfl
  | c :: r, bs => by
    show (markAll (bs.set c true) r).length = _
    rw [markAll_len r, List.length_set]
theorem markAll_at {x : Nat} : ∀ {ks : List Nat} {bs : List Bool}, (markAll bs ks)[x]? = if x ∈ ks ∧ x < bs.length then some true else bs[x]?
  | [], bs => by
    rw [if_neg (fun z => by cases z.1)]
    rfl
  | c :: r, bs => by
    show (markAll (bs.set c true) r)[x]? = _
    rw [markAll_at, List.length_set]
    by_cases h : x ∈ r ∧ x < bs.length
    · rw [if_pos h, if_pos ⟨List.mem_cons_of_mem _ h.1, h.2⟩]
    · rw [if_neg h, List.getElem?_set]
      by_cases e : c = x
      · subst e
        rw [if_pos rfl]
        by_cases z : c < bs.length
        · rw [if_pos z, if_pos ⟨List.mem_cons_self .., z⟩]
        · rw [if_neg z, if_neg fun y => z y.2]
          exact (List.getElem?_eq_none (by omega)).symm
      · rw [if_neg e, if_neg]
        rintro ⟨y, z⟩
        rcases List.mem_cons.mp y with y | y
        · exact e y.symm
        · exact h ⟨y, z⟩
theorem markAll_take {ks : List Nat} {bs : List Bool} {j c : Nat} (h : ks[j]? = some c) : markAll bs (ks.take (j + 1)) = (markAll bs (ks.take j)).set c true := by
  unfold markAll
  rw [List.take_add_one, h, List.foldl_append]
  rfl
theorem Mk.skip {kk : List (List Nat)} {k j : Nat} {bs : List Bool} (m : Mk kk k (j + 1) bs) (h : bs[j]? ≠ some true) : Mk kk k j bs :=
  ⟨m.len, m.top, m.snd, fun w h1 h2 h3 => by
    by_cases e : w = j
    · subst e
      exact absurd h3 h
    · exact m.shut w (by omega) h2 h3⟩
theorem Mk.step {kk : List (List Nat)} {k j : Nat} {bs : List Bool} (m : Mk kk k (j + 1) bs) (hj : j ≤ k) (hlt : ∀ c ∈ rowAt kk j, c < j) (hb : bs[j]? = some true) : Mk kk k j (markAll bs (rowAt kk j)) := by
  have keep : ∀ x, bs[x]? = some true → (markAll bs (rowAt kk j))[x]? = some true := fun x hx => by
    rw [markAll_at]
    split
    · rfl
    · exact hx
  refine ⟨by rw [markAll_len]; exact m.len, keep k m.top, fun x hx => ?_, fun w h1 h2 h3 c hc => ?_⟩
  · rw [markAll_at] at hx
    by_cases z : x ∈ rowAt kk j ∧ x < bs.length
    · exact rch_shut j x (m.snd j hb) z.1
    · rw [if_neg z] at hx
      exact m.snd x hx
  · by_cases e : w = j
    · subst e
      rw [markAll_at, if_pos ⟨hc, by have := hlt c hc; have := m.len; omega⟩]
    · have hw : bs[w]? = some true := by
        rw [markAll_at] at h3
        by_cases z : w ∈ rowAt kk j ∧ w < bs.length
        · have := hlt w z.1
          omega
        · rw [if_neg z] at h3
          exact h3
      exact keep c (m.shut w (by omega) h2 hw c hc)
theorem Mk.iff {kk : List (List Nat)} {k : Nat} {bs : List Bool} (m : Mk kk k 0 bs) (x : Nat) : bs[x]? = some true ↔ Rch kk k x := by
  refine ⟨m.snd x, fun h => h (fun x => bs[x]? = some true) m.top fun u c hu hc => m.shut u (Nat.zero_le _) ?_ hu c hc⟩
  have := (List.getElem?_eq_some_iff.mp hu).1
  have := m.len
  omega
theorem mk_start {kk : List (List Nat)} {k : Nat} : Mk kk k (k + 1) ((List.range (k + 1)).map fun i => decide (i = k)) := by
  have hat : ∀ x, ((List.range (k + 1)).map fun i => decide (i = k))[x]? = some true → x = k := fun x h => by
    rw [List.getElem?_map] at h
    obtain ⟨i, hi, e⟩ := Option.map_eq_some_iff.mp h
    have := (List.getElem?_eq_some_iff.mp hi).2
    rw [List.getElem_range] at this
    have e := of_decide_eq_true e
    omega
  refine ⟨by rw [List.length_map, List.length_range], ?_, fun x h => ?_, fun w h1 h2 _ => by omega⟩
  · rw [List.getElem?_map, List.getElem?_range (Nat.lt_succ_self k)]
    show some (decide (k = k)) = _
    rw [decide_eq_true rfl]
  · rw [hat x h]
    exact rch_self
/-- the three of a web, a kind and a kind -/
def spWKK (K : PySem.W.Frag) (g : Nat → List (List Nat) → Nat → Nat → PyData) : Sp := fun vs H Q _ =>
  ∃ v l inner k t, vs = [v, .int ((k : Nat) : Int), .int ((t : Nat) : Int)] ∧ Dp K H v (webD l inner) ∧ Raw l inner ∧ k < l + inner.length ∧ t < l + inner.length ∧ ∀ r H', Ex H H' → Dp K H' r (g l inner k t) → Q r H'
theorem spWKK_len {K : PySem.W.Frag} {g : Nat → List (List Nat) → Nat → Nat → PyData} {vs : List V} {H : Hp} {Q : VK} {E : XK} (h : spWKK K g vs H Q E) : vs.length = 3 := by
  obtain ⟨v, l, inner, k, t, rfl, _⟩ := h
  rfl
theorem ed_callWKK {K : PySem.W.Frag} {σ : L2.St} {H : Hp} {te tx ty : TE} {l k t : Nat} {inner : List (List Nat)} {g : Nat → List (List Nat) → Nat → Nat → PyData} {E : XK} (h : EvD K te σ H (webD l inner)) (hk : EvD K tx σ H (natD k)) (ht : EvD K ty σ H (natD t)) (hw : Raw l inner) (hlt : k < l + inner.length) (htt : t < l + inner.length) :
    EvD K (tCall (spWKK K g) [] E (tCons te (tCons tx (tCons ty tNil)))) σ H (g l inner k t) := fun H1 e Q q =>
  h H1 e _ fun v H2 e2 hv => hk H2 (e.trans e2) _ fun w H3 e3 hw' => ht H3 ((e.trans e2).trans e3) _ fun x H4 e4 hx => by
    cases dp_int hw'
    cases dp_int hx
    exact ⟨v, l, inner, k, t, rfl, dp_ex (e3.trans e4) _ hv, hw, hlt, htt, fun r H5 e5 hr => q r H5 (((e2.trans e3).trans e4).trans e5) hr⟩
/-- for i in range(n - 1, -1, -1) -/
theorem q_forR3 {σ : L2.St} {H : Hp} {D : Ends} {tu tz : TS} {ta : TA} {j : Nat} {lo : Int} {n : Nat} (h : EvA ta σ H [.int lo, .int (-1), .int (-1)]) (hn : lo + 1 = (n : Int)) (h1 : n ≤ 100000) (Pv : Nat → L2.St → Hp → Prop) (h0 : ∀ H1, Ex H H1 → Pv 0 σ H1)
    (hs : ∀ (i : Nat) σ' H', i < n → Pv i σ' H' → tu { D with nx := Pv (i + 1), ct := Pv (i + 1), bk := tz D } (σ'.set j (some (.int (lo + (i : Nat) * (-1))))) H') (hd : ∀ σ' H', Pv n σ' H' → tz D σ' H') : tSeq (tFor (iRng3 ta) (gName j) tu) tz D σ H :=
  h H (Ex.refl H) _ fun H1 e => ⟨lo, -1, -1, n, rfl, by
    have q := RgC.neg (i := lo) (j := -1) (by omega) (by omega) (by omega) (by omega)
    rw [show (lo - -1).toNat = n by omega] at q
    exact q, for_rangeC (D := { D with nx := tz D }) Pv (h0 H1 e) (fun i σ' H' hi p => hs i σ' H' hi p) hd⟩
end WR
set_option Elab.async false
set_option linter.all false
set_option maxRecDepth 100000
set_option maxHeartbeats 1000000
namespace WR
open PySem PySem.Spec PyProof.Rows L2 Evl

/-! ### how many ways: the mathematics -/
def wayL (kf : Nat → List Nat) (to : Nat) : Nat → List Int
  | 0 => []
  | n + 1 => wayL kf to n ++ [((kf n).map fun c => (wayL kf to n).getD c 0).sum + (if n = to then 1 else 0)]
def way (kf : Nat → List Nat) (to k : Nat) : Int := (wayL kf to (k + 1)).getD k 0
theorem wayL_len {kf : Nat → List Nat} {to : Nat} : ∀ n, (wayL kf to n).length = n
  | 0 => rfl
  | n + 1 => by
    show (wayL kf to n ++ [_]).length = _
    rw [List.length_append, wayL_len n]
    rfl
theorem wayL_at {kf : Nat → List Nat} {to k : Nat} : ∀ {n : Nat}, k < n → (wayL kf to n).getD k 0 = way kf to k
  | n + 1, h => by
    by_cases e : k = n
    · subst e
      rfl
    · show (wayL kf to n ++ [_]).getD k 0 = _
      rw [List.getD_eq_getElem?_getD, List.getElem?_append_left (by rw [wayL_len]; omega), ← List.getD_eq_getElem?_getD]
      exact wayL_at (by omega)
theorem wayL_eq {kf : Nat → List Nat} {to : Nat} (n : Nat) : wayL kf to n = (List.range n).map (way kf to) := by
  refine List.ext_getElem? fun k => ?_
  by_cases h : k < n
  · rw [List.getElem?_map, List.getElem?_range h]
    have := wayL_at (kf := kf) (to := to) h
    rw [List.getD_eq_getElem?_getD, List.getElem?_eq_getElem (by rw [wayL_len]; exact h)] at this
    rw [List.getElem?_eq_getElem (by rw [wayL_len]; exact h)]
    exact congrArg some this
  · rw [List.getElem?_eq_none (by rw [wayL_len]; omega), List.getElem?_eq_none (by rw [List.length_map, List.length_range]; omega)]
theorem way_rec {kf : Nat → List Nat} {to k : Nat} (h : ∀ c ∈ kf k, c < k) : way kf to k = ((kf k).map (way kf to)).sum + (if k = to then 1 else 0) := by
  unfold way
  show (wayL kf to k ++ [_]).getD k 0 = _
  rw [List.getD_eq_getElem?_getD, List.getElem?_append_right (by rw [wayL_len]; exact Nat.le_refl _), wayL_len, Nat.sub_self]
  show ((kf k).map fun c => (wayL kf to k).getD c 0).sum + _ = _
  congr 2
  exact List.map_congr_left fun c hc => wayL_at (h c hc)
theorem sum_nn : ∀ {ns : List Int}, (∀ n ∈ ns, 0 ≤ n) → 0 ≤ ns.sum
  | [], _ => Int.le_refl 0
  | n :: r, h => by
    rw [List.sum_cons]
    have := h n (List.mem_cons_self ..)
    have := sum_nn (ns := r) fun m hm => h m (List.mem_cons_of_mem _ hm)
    omega
theorem sum_ge : ∀ {ns : List Int} {n : Int}, (∀ n ∈ ns, 0 ≤ n) → n ∈ ns → n ≤ ns.sum
  | m :: r, n, h, hn => by
    rw [List.sum_cons]
    have := h m (List.mem_cons_self ..)
    have := sum_nn (ns := r) fun m hm => h m (List.mem_cons_of_mem _ hm)
    rcases List.mem_cons.mp hn with rfl | hn
    · omega
    · have := sum_ge (ns := r) (fun m hm => h m (List.mem_cons_of_mem _ hm)) hn
      omega
theorem sum_pos : ∀ {ns : List Int}, 0 < ns.sum → ∃ n ∈ ns, 0 < n
  | [], h => absurd h (by simp)
  | n :: r, h => by
    rw [List.sum_cons] at h
    by_cases z : 0 < n
    · exact ⟨n, List.mem_cons_self .., z⟩
    · obtain ⟨m, a, b⟩ := sum_pos (ns := r) (by omega)
      exact ⟨m, List.mem_cons_of_mem _ a, b⟩
theorem sum_le_mul : ∀ {ns : List Int} {B : Int}, (∀ n ∈ ns, n ≤ B) → ns.sum ≤ ns.length * B
  | [], B, _ => by simp
  | n :: r, B, h => by
    rw [List.sum_cons, List.length_cons]
    have := h n (List.mem_cons_self ..)
    have := sum_le_mul (ns := r) fun m hm => h m (List.mem_cons_of_mem _ hm)
    rw [Int.natCast_add, Int.add_mul]
    omega
section
variable {kf : Nat → List Nat} {to : Nat} (hd : ∀ u c, c ∈ kf u → c < u)
include hd
theorem way_nn : ∀ k, 0 ≤ way kf to k := fun k => by
  induction k using Nat.strongRecOn with
  | ind k ih =>
    rw [way_rec (hd k)]
    have : 0 ≤ ((kf k).map (way kf to)).sum := sum_nn fun n hn => by
      obtain ⟨c, hc, rfl⟩ := List.mem_map.mp hn
      exact ih c (hd k c hc)
    split <;> omega
theorem way_self : 1 ≤ way kf to to := by
  rw [way_rec (hd to), if_pos rfl]
  have : 0 ≤ ((kf to).map (way kf to)).sum := sum_nn fun n hn => by
    obtain ⟨c, hc, rfl⟩ := List.mem_map.mp hn
    exact way_nn hd c
  omega
theorem way_ge {u c : Nat} (h : c ∈ kf u) : way kf to c ≤ way kf to u := by
  rw [way_rec (hd u)]
  have := sum_ge (ns := (kf u).map (way kf to)) (fun n hn => by
    obtain ⟨c, hc, rfl⟩ := List.mem_map.mp hn
    exact way_nn hd c) (List.mem_map_of_mem h)
  split <;> omega
theorem way_le {B : Nat} (hB : ∀ u, (kf u).length ≤ B) : ∀ k, way kf to k ≤ ((B + 1) ^ k : Nat) := fun k => by
  induction k using Nat.strongRecOn with
  | ind k ih =>
    rw [way_rec (hd k)]
    cases k with
    | zero =>
      have : kf 0 = [] := List.eq_nil_iff_forall_not_mem.mpr fun c hc => by have := hd 0 c hc; omega
      rw [this]
      show (0 : Int) + _ ≤ ((1 : Nat) : Int)
      split <;> omega
    | succ m =>
      have hs : ((kf (m + 1)).map (way kf to)).sum ≤ ((kf (m + 1)).map (way kf to)).length * (((B + 1) ^ m : Nat) : Int) := sum_le_mul fun n hn => by
        obtain ⟨c, hc, rfl⟩ := List.mem_map.mp hn
        have h1 := ih c (hd _ c hc)
        have h2 : (B + 1) ^ c ≤ (B + 1) ^ m := Nat.pow_le_pow_right (by omega) (by have := hd _ c hc; omega)
        omega
      rw [List.length_map] at hs
      have h3 : (kf (m + 1)).length * (B + 1) ^ m ≤ B * (B + 1) ^ m := Nat.mul_le_mul_right _ (hB _)
      have h4 : (B + 1) ^ (m + 1) = B * (B + 1) ^ m + (B + 1) ^ m := by rw [Nat.pow_succ, Nat.mul_comm, Nat.add_mul, Nat.one_mul]
      have h5 : 1 ≤ (B + 1) ^ m := Nat.pos_of_ne_zero (by have := Nat.pow_pos (n := m) (show 0 < B + 1 by omega); omega)
      have h6 : (((kf (m + 1)).length : Int)) * (((B + 1) ^ m : Nat) : Int) = (((kf (m + 1)).length * (B + 1) ^ m : Nat) : Int) := (Int.natCast_mul ..).symm
      rw [h6] at hs
      split <;> omega
end
theorem way_rch {kk : List (List Nat)} (hd : ∀ u c, c ∈ rowAt kk u → c < u) {to : Nat} (k : Nat) : 0 < way (rowAt kk) to k ↔ Rch kk k to := by
  constructor
  · induction k using Nat.strongRecOn with
    | ind k ih =>
      intro h
      by_cases e : k = to
      · subst e
        exact rch_self
      · rw [way_rec (hd k), if_neg e, Int.add_zero] at h
        obtain ⟨n, hn, hp⟩ := sum_pos h
        obtain ⟨c, hc, rfl⟩ := List.mem_map.mp hn
        have := ih c (hd k c hc) hp
        intro T hT hS
        exact this T (hS k c hT hc) hS
  · intro h
    by_cases z : 0 < way (rowAt kk) to k
    · exact z
    · have hk : way (rowAt kk) to k = 0 := by have := way_nn (to := to) hd k; omega
      have := h (fun y => way (rowAt kk) to y = 0) hk fun u c hu hc => by
        have h1 := way_ge (to := to) hd hc
        have h2 := way_nn (to := to) hd c
        have hu : way (rowAt kk) to u = 0 := hu
        show way (rowAt kk) to c = 0
        omega
      have h3 := way_self (to := to) hd
      have h4 : way (rowAt kk) to to = 0 := this
      omega
theorem way_small {l : Nat} {inner : List (List Nat)} (hw : Raw l inner) {to k : Nat} (hk : k < l + inner.length) : Sm 150 0 (.int (way (kidsAt l inner) to k)) := by
  have h8 := hw.l8
  have h20 := hw.n20
  have hd : ∀ u c, c ∈ kidsAt l inner u → c < u := fun u c h => (kidsAt_lt hw h).2
  have h1 := way_nn (to := to) hd k
  have h2 := way_le (to := to) hd (B := 30) (fun u => kl30 hw) k
  have h3 : (30 + 1) ^ k ≤ (30 + 1) ^ 28 := Nat.pow_le_pow_right (by decide) (by omega)
  have h4 : (30 + 1) ^ 28 < 10 ^ 45 := by decide
  refine sm_big ?_
  generalize (30 + 1) ^ k = a at h2 h3
  generalize (30 + 1) ^ 28 = b at h3 h4
  generalize 10 ^ 45 = c at h4 ⊢
  omega
theorem rowAt_kkE {l : Nat} {inner : List (List Nat)} : rowAt (kkOf l inner) = kidsAt l inner := funext fun u => rowAt_kk
section
variable {K : PySem.W.Frag} {σ : L2.St} {H H' : Hp} {te : TE} {D : Ends} {tz : TS} {l : Nat} {inner : List (List Nat)} {v : V}
/-- kids = _law_lists(web) -/
theorem q_lists1 {E : XK} {i : Nat} (h : Ev te σ H v) (hv : Dp K H v (webD l inner)) (hw : Raw l inner)
    (c : ∀ p rs H1, H p = none → Ex H H1 → KdAt H1 p rs (kkOf l inner) → tz D (σ.set i (some (.ref p))) H1) :
    tSeq (tAsg (tCall (spLists K) [] E (tCons te tNil)) (gName i)) tz D σ H :=
  h H (Ex.refl H) _ fun H1 e1 => ⟨v, l, inner, rfl, dp_ex e1 _ hv, hw, fun p rs H2 e2 hp kd => c p rs H2 (fresh_back e1 hp) (e1.trans e2) kd⟩
theorem q_lists2 {E : XK} {w i j : Nat} (h : σ[w]? = some (some v)) (hv : Dp K H v (webD l inner)) (hw : Raw l inner)
    (c : ∀ p rs H1, H p = none → Ex H H1 → KdAt H1 p rs (kkOf l inner) → tz D ((σ.set i (some (.ref p))).set j (some (.str (webD l inner).shown))) H1) :
    tSeq (tPar i j (tCons (tCall (spLists K) [] E (tCons (tVar w) tNil)) (tCons (tCB (rReprA K) (tCons (tVar w) tNil)) tNil))) tz D σ H :=
  ⟨v, h, v, l, inner, rfl, hv, hw, fun p rs H1 e1 hp kd => (ev_repr (K := K) (ed_var h (dp_ex e1 _ hv)) ((sm_web hw).ok (by decide) (by decide)) : Ev _ σ H1 _) H1 (Ex.refl H1) _ fun H2 e2 =>
    ⟨_, _, rfl, c p rs H2 hp (e1.trans e2) (kd.ex e2)⟩⟩
end
end WR
set_option Elab.async false
set_option linter.all false
set_option maxRecDepth 100000
set_option maxHeartbeats 1000000
namespace WR
open PySem PySem.Spec PyProof.Rows L2 Evl

/-! ### comprehensions over numbers, tuples of numbers compared, zip -/
section
variable {K : PySem.W.Frag} {σ : L2.St} {H : Hp} {ta tb te : TE} {t : TT} {wi : TI} {j : Nat} {vs : List Nat}
theorem et_yes : EvT tYes σ H true := fun H1 _ _ q => q H1 (Ex.refl H1)
theorem fm_fil {ks : List Nat} {b : Nat → Bool} {g : Nat → PyData} {f : PyData → Option PyData} (h : ∀ k ∈ ks, f (natD k) = if b k = true then some (g k) else none) : (natDs ks).filterMap f = (ks.filter b).map g := by
  induction ks with
  | nil => rfl
  | cons k r ih =>
    show ((natD k) :: natDs r).filterMap f = _
    rw [List.filterMap_cons, h k (List.mem_cons_self ..), List.filter_cons]
    have := ih fun x hx => h x (List.mem_cons_of_mem _ hx)
    cases e : b k with
    | true => simp [this]
    | false => simp [this]
theorem en_natFil {ks : List Nat} (b : Nat → Bool) (g : Nat → PyData) (h : Src K wi σ H (natDs ks)) (hl : ks.length ≤ 40000) (hw : ∀ x, wipe ((wipe σ vs).set j (some x)) vs = wipe σ vs)
    (ht : ∀ k H1, Ex H H1 → k ∈ ks → EvT t ((wipe σ vs).set j (some (nV k))) H1 (b k))
    (hv : ∀ k H1, Ex H H1 → k ∈ ks → b k = true → EvD K te ((wipe σ vs).set j (some (nV k))) H1 (g k))
    (hg : ∀ k ∈ ks, b k = true → nl (g k) = true) : EvN K (tLc wi (gName j) t te vs) σ H ((ks.filter b).map g) := by
  let f : PyData → Option PyData := fun d => match d with | .int i => if b i.toNat = true then some (g i.toNat) else none | _ => none
  have hf : ∀ k : Nat, f (natD k) = if b k = true then some (g k) else none := fun k => by
    show (if b ((k : Int)).toNat = true then some (g ((k : Int)).toNat) else none) = _
    rw [Int.toNat_natCast]
  have q := en_lc (K := K) (t := t) (te := te) (j := j) (vs := vs) f h (by unfold natDs; rw [List.length_map]; exact hl) hw (fun d v H1 e hd hv => by
      obtain ⟨i, hi, rfl⟩ := List.mem_map.mp hd
      rw [hf]
      cases dp_int hv
      refine et_is (ht i H1 e hi) ?_
      cases b i with
      | true => rfl
      | false => rfl) (fun d r v H1 e hd hv2 hr => by
      obtain ⟨i, hi, rfl⟩ := List.mem_map.mp hd
      rw [hf] at hr
      split at hr
      · rename_i hb
        cases hr
        cases dp_int hv2
        exact hv i H1 e hi hb
      · cases hr) fun d r hd hr => by
      obtain ⟨i, hi, rfl⟩ := List.mem_map.mp hd
      rw [hf] at hr
      split at hr
      · rename_i hb
        cases hr
        exact hg i hi hb
      · cases hr
  rw [fm_fil (b := b) (g := g) fun k _ => hf k] at q
  exact q
theorem en_natMap {ks : List Nat} (g : Nat → PyData) (h : Src K wi σ H (natDs ks)) (hl : ks.length ≤ 40000) (hw : ∀ x, wipe ((wipe σ vs).set j (some x)) vs = wipe σ vs)
    (hv : ∀ k H1, Ex H H1 → k ∈ ks → EvD K te ((wipe σ vs).set j (some (nV k))) H1 (g k))
    (hg : ∀ k ∈ ks, nl (g k) = true) : EvN K (tLc wi (gName j) tYes te vs) σ H (ks.map g) := by
  have q := en_natFil (K := K) (t := tYes) (te := te) (fun _ => true) g h hl hw (fun _ _ _ _ => et_yes) (fun k H1 e hk _ => hv k H1 e hk) (fun k hk _ => hg k hk)
  rw [List.filter_eq_self.mpr fun _ _ => rfl] at q
  exact q
theorem rng_nats {n : Nat} : rngD 0 n = natDs (List.range n) := by
  unfold rngD natDs
  refine List.map_congr_left fun k _ => ?_
  show PyData.int ((0 : Int) + (k : Int)) = .int (k : Int)
  rw [Int.zero_add]
theorem rng_natsLo {lo n : Nat} : rngD (lo : Int) n = natDs ((List.range n).map fun k => lo + k) := by
  unfold rngD natDs
  rw [List.map_map]
  refine List.map_congr_left fun k _ => ?_
  show PyData.int ((lo : Int) + (k : Int)) = .int ((lo + k : Nat) : Int)
  rw [Int.natCast_add]
/-- range(n) -/
theorem src_rng {ta : TA} {n : Nat} (h : EvA ta σ H [.int (n : Int)]) (h1 : n ≤ 40000) : Src K (iRng1 ta) σ H (natDs (List.range n)) := by
  have q := srcS_R1 (K := K) (σ := σ) (H := H) (n := (n : Int)) h (by omega)
  rw [Int.toNat_natCast, rng_nats] at q
  exact q.src
theorem srcS_rng {ta : TA} {n : Nat} (h : EvA ta σ H [.int (n : Int)]) (h1 : n ≤ 40000) : SrcS K (iRng1 ta) σ H (rngD 0 n) := by
  have q := srcS_R1 (K := K) (σ := σ) (H := H) (n := (n : Int)) h (by omega)
  rw [Int.toNat_natCast] at q
  exact q
theorem natDs_mem {d : PyData} {ks : List Nat} (h : d ∈ natDs ks) : ∃ k ∈ ks, d = natD k := by
  obtain ⟨k, hk, rfl⟩ := List.mem_map.mp h
  exact ⟨k, hk, rfl⟩
theorem natDs_at {i : Nat} {d : PyData} {ks : List Nat} (h : (natDs ks)[i]? = some d) : ∃ k, ks[i]? = some k ∧ d = natD k := by
  unfold natDs at h
  rw [List.getElem?_map] at h
  obtain ⟨k, hk, rfl⟩ := Option.map_eq_some_iff.mp h
  exact ⟨k, hk, rfl⟩
/-! tuples of integers compared -/
theorem eqvAll_ints : ∀ a b : List Int, PyData.eqvAll (a.map PyData.int) (b.map PyData.int) = decide (a = b)
  | [], [] => by simp [PyData.eqvAll]
  | [], _ :: _ => by simp [PyData.eqvAll]
  | _ :: _, [] => by simp [PyData.eqvAll]
  | x :: a, y :: b => by
    have := eqvAll_ints a b
    simp only [List.map_cons, PyData.eqvAll, PyData.eqv, this, List.cons.injEq]
    by_cases h1 : x = y <;> by_cases h2 : a = b <;> simp [h1, h2]
theorem eqv_tupI (a b : List Int) : PyData.eqv (tupI a) (tupI b) = decide (a = b) := by
  show PyData.eqv (.tuple _) (.tuple _) = _
  simp only [PyData.eqv]
  exact eqvAll_ints a b
theorem shaped_tupI (a : List Int) : SeqAt.shaped (tupI a) = true := by
  have q := lay_ints a
  show (PyData.canLay0 _ && decide (PyData.depth _ ≤ 64)) = true
  unfold tupI
  simp only [PyData.canLay0, PyData.depth, q.1, q.2]
  decide
theorem kidsD_tupI (ks : List Nat) : kidsD ks = tupI (ks.map fun (k : Nat) => (k : Int)) := by
  unfold tupI
  rw [List.map_map]
  rfl
theorem ev_eqTI {a b : List Int} (h1 : EvD K ta σ H (tupI a)) (h2 : EvD K tb σ H (tupI b)) : Ev (tOp (rEqD K) ta tb) σ H (.bl (decide (a = b))) := fun H1 e Q q =>
  h1 H1 e _ fun v H2 e2 hv => h2 H2 (e.trans e2) _ fun w H3 e3 hw => ⟨tupI a, tupI b, dp_ex e3 _ hv, hw, shaped_tupI a, shaped_tupI b, by
    rw [eqv_tupI]
    exact q _ (e2.trans e3)⟩
theorem ev_neTI {a b : List Int} (h1 : EvD K ta σ H (tupI a)) (h2 : EvD K tb σ H (tupI b)) : Ev (tOp (rNeD K) ta tb) σ H (.bl (!decide (a = b))) := fun H1 e Q q =>
  h1 H1 e _ fun v H2 e2 hv => h2 H2 (e.trans e2) _ fun w H3 e3 hw => ⟨tupI a, tupI b, dp_ex e3 _ hv, hw, shaped_tupI a, shaped_tupI b, by
    rw [eqv_tupI]
    exact q _ (e2.trans e3)⟩
theorem ints_nats {a b : List Nat} : (a.map fun (k : Nat) => (k : Int)) = (b.map fun (k : Nat) => (k : Int)) ↔ a = b := by
  constructor
  · intro h
    have := congrArg (List.map Int.toNat) h
    simp only [List.map_map] at this
    have e : ∀ l : List Nat, l.map (Int.toNat ∘ fun (k : Nat) => (k : Int)) = l := fun l => by
      conv => rhs; rw [← List.map_id l]
      exact List.map_congr_left fun k _ => Int.toNat_natCast k
    rw [e, e] at this
    exact this
  · exact fun h => by rw [h]
theorem ev_eqK {a b : List Nat} (h1 : EvD K ta σ H (kidsD a)) (h2 : EvD K tb σ H (kidsD b)) : Ev (tOp (rEqD K) ta tb) σ H (.bl (decide (a = b))) := by
  rw [kidsD_tupI] at h1 h2
  refine ev_is (ev_eqTI h1 h2) ?_
  congr 1
  exact decide_eq_decide.mpr ints_nats
theorem ev_neK {a b : List Nat} (h1 : EvD K ta σ H (kidsD a)) (h2 : EvD K tb σ H (kidsD b)) : Ev (tOp (rNeD K) ta tb) σ H (.bl (!decide (a = b))) := by
  rw [kidsD_tupI] at h1 h2
  refine ev_is (ev_neTI h1 h2) ?_
  congr 2
  exact decide_eq_decide.mpr ints_nats
/-! [1 for a, b in zip(x, y) if ..] over tuples of integers -/
theorem walk_zipTh {K : PySem.W.Frag} {a b : Addr} {xs ys : List V} {n : Nat} (hn : n = min xs.length ys.length) : Walk (RZ.ItzT K a b) n (fun H => SqT K H a xs ∧ SqT K H b ys) (YPair (fun i => xs[i]?) (fun i => ys[i]?)) := by
  subst hn
  refine ⟨fun i _ hi q => ?_, fun _ q => ⟨xs, ys, q.1, q.2, by omega⟩, fun i H v H' _ q y => ?_⟩
  · have h1 : i < xs.length := by omega
    have h2 : i < ys.length := by omega
    exact ⟨xs, ys, xs[i], ys[i], q.1, q.2, by simp [h1], by simp [h2]⟩
  · obtain ⟨T, x, z, h1, h2, h3, h4, h5⟩ := y
    exact ⟨T, x, z, h1, h2, h3, h4 xs q.1, h5 ys q.2⟩
def zipOk (b : Int → Int → Bool) (xs ys : List Int) : Bool := (xs.zip ys).all fun p => !b p.1 p.2
theorem zipOk_iff {b : Int → Int → Bool} {xs ys : List Int} : zipOk b xs ys = true ↔ ∀ (i : Nat) (x y : Int), xs[i]? = some x → ys[i]? = some y → b x y = false := by
  unfold zipOk
  rw [List.all_eq_true]
  constructor
  · intro h i x y hx hy
    have := h (x, y) (List.mem_of_getElem? (i := i) (List.getElem?_zip_eq_some.mpr ⟨hx, hy⟩))
    simpa using this
  · intro h p hp
    obtain ⟨i, hi, e⟩ := List.mem_iff_getElem.mp hp
    have e2 : (xs.zip ys)[i]? = some (p.1, p.2) := by rw [List.getElem?_eq_getElem hi, e]
    obtain ⟨h1, h2⟩ := List.getElem?_zip_eq_some.mp e2
    rw [h i _ _ h1 h2]
    rfl
theorem et_zipNone {i j : Nat} {vs : List Nat} {xs ys : List Int} (b : Int → Int → Bool) (h1 : EvD K ta σ H (tupI xs)) (h2 : EvD K tb σ H (tupI ys)) (hn : xs.length ≤ 40000) (hw : ∀ x y, wipe (((wipe σ vs).set i (some x)).set j (some y)) vs = wipe σ vs)
    (ht : ∀ (a c : Int) H1, Ex H H1 → EvT t (((wipe σ vs).set i (some (.int a))).set j (some (.int c))) H1 (b a c)) :
    Ev (tOp (rEqD K) (tLc (RZ.iZipA K (tCons ta (tCons tb tNil))) (gTup K 2 (gCons (gName i) (gCons (gName j) gNil))) t (tC (.int 1)) vs) (tLst tNil)) σ H (.bl (zipOk b xs ys)) := fun H1 e Q q =>
  h1 H1 e _ fun v H2 e2 hv => h2 H2 (e.trans e2) _ fun w H3 e3 hw' => by
    obtain ⟨a, xa, rfl, hsx, hdx⟩ := dp_tup (dp_ex e3 _ hv)
    obtain ⟨c, yb, rfl, hsy, hdy⟩ := dp_tup hw'
    have hdx : DpAll K H3 xa (xs.map PyData.int) := hdx
    have hdy : DpAll K H3 yb (ys.map PyData.int) := hdy
    rw [ints_of hdx] at hsx
    rw [ints_of hdy] at hsy
    refine ⟨a, c, xs.map V.int, ys.map V.int, rfl, .inr ⟨hsx, hsy, fun Dl hD => ?_⟩⟩
    refine lc_it (walk_zipTh (K := K) (a := a) (b := c) (xs := xs.map V.int) (ys := ys.map V.int) rfl) (fun m H' => Ex H3 H' ∧ ∃ k : Nat, H' Dl = some (.lst (List.replicate k (V.int 1))) ∧ k ≤ m ∧ (k = 0 ↔ ∀ i : Nat, i < m → ∀ x y : Int, xs[i]? = some x → ys[i]? = some y → b x y = false)) ⟨Ex.new hD, 0, upd_same, Nat.le_refl 0, by simp⟩ (fun m H' _ p => ⟨ex_t p.1 hsx, ex_t p.1 hsy⟩) (fun m x H' H'' hm p hy => ?_) (fun H' p => ?_)
    · obtain ⟨T, x1, y1, rfl, hT, rfl, hx1, hy1⟩ := hy
      simp only [List.getElem?_map] at hx1 hy1
      obtain ⟨x0, hx0, rfl⟩ := Option.map_eq_some_iff.mp hx1
      obtain ⟨y0, hy0, rfl⟩ := Option.map_eq_some_iff.mp hy1
      have hml := (List.getElem?_eq_some_iff.mp hx0).1
      have en := Ex.new (o := .tup [V.int x0, V.int y0]) hT
      obtain ⟨p1, k, pk, pkm, pki⟩ := p
      refine ⟨T, _, rfl, st_of upd_same, rfl, _, _, rfl, _, _, rfl, rfl, hw _ _, ?_⟩
      refine ht x0 y0 _ (((e.trans e2).trans e3).trans (p1.trans en)) _ (Ex.refl _) _ fun H5 e5 => ?_
      have p5 := p1.trans (en.trans e5)
      have pk5 := (en.trans e5) _ _ pk
      cases hb : b x0 y0 with
      | false =>
        refine ⟨p5, k, pk5, by omega, pki.trans ⟨fun h i hi x y hx hy => ?_, fun h i hi => h i (by omega)⟩⟩
        by_cases z : i = m
        · subst z
          rw [hx0] at hx
          rw [hy0] at hy
          cases hx
          cases hy
          exact hb
        · exact h i (by omega) x y hx hy
      | true =>
        refine ⟨_, pk5, sz_lt (by rw [List.length_replicate]; omega), Ex.mut p5 hD, k + 1, by rw [upd_same, List.replicate_succ'], by omega, ⟨fun z => absurd z (by omega), fun h => ?_⟩⟩
        have := h m (by omega) x0 y0 hx0 hy0
        rw [hb] at this
        cases this
    · obtain ⟨p1, k, pk, pkm, pki⟩ := p
      have er : List.replicate k (V.int 1) = nVs (List.replicate k 1) := by
        unfold nVs
        rw [List.map_replicate]
        rfl
      rw [er] at pk
      refine ⟨by show 0 ≤ sizeLine; decide, fun l hl => ⟨.list (natDs (List.replicate k 1)), .list [], .lst (sq_of (Ex.new hl _ _ pk)) (dpAll_nat _), .lst (sq_of upd_same) .nil, shaped_nats _, shaped_nats [], ?_⟩⟩
      rw [eqv_nats_nil, show (List.replicate k 1).isEmpty = zipOk b xs ys from ?_]
      · exact q _ ((e2.trans e3).trans (p1.trans (Ex.new hl)))
      · rw [Bool.eq_iff_iff, List.isEmpty_iff, zipOk_iff, ← List.length_eq_zero_iff, List.length_replicate, pki]
        constructor
        · intro h i x y hx hy
          refine h i ?_ x y hx hy
          have h1 := (List.getElem?_eq_some_iff.mp hx).1
          have h2 := (List.getElem?_eq_some_iff.mp hy).1
          rw [List.length_map, List.length_map]
          omega
        · exact fun h i _ x y hx hy => h i x y hx hy
theorem nl_webA (l : Nat) (inner : List (List Nat)) : nl (webD l inner) = true := by
  show (true && (nlAll (inner.map kidsD) && true)) = true
  rw [nl_kidsDs]
  rfl
/-- for x in data: .. -/
theorem s_forD {D : Ends} {tu : TS} {ds : List PyData} (h : Src K wi σ H ds) (Pv : Hp → Nat → L2.St → Hp → Prop) (h0 : ∀ H1, Ex H H1 → Pv H1 0 σ H1) (hG : ∀ H2 i σ' H', Pv H2 i σ' H' → Ex H2 H')
    (hs : ∀ H2 i d x σ' H', Ex H H2 → ds[i]? = some d → Dp K H' x d → Pv H2 i σ' H' → tu { D with nx := Pv H2 (i + 1), ct := Pv H2 (i + 1), bk := D.nx } (σ'.set j (some x)) H') (hd : ∀ H2 σ' H', Ex H H2 → Pv H2 ds.length σ' H' → D.nx σ' H') :
    tFor wi (gName j) tu D σ H := h H (Ex.refl H) _ fun J H2 G e2 hg w =>
  for_it w (D := D) (Pv H2) (h0 H2 e2) (fun i σ' H' _ p => hg H' (hG H2 i σ' H' p)) (fun i x σ' Hc H' hi p hy => by
    obtain ⟨rfl, d, h1, h2⟩ := hy
    exact hs H2 i d x σ' H' e2 h1 h2 p) fun σ' H' p => hd H2 σ' H' e2 p
/-! a draw: what stands stays -/
theorem Bs.rfl {dk L : Addr} {ns : List Int} {N : Int} (h : Dk H dk L ns N) : Bs H H dk L ns N := by
  obtain ⟨a, b, n, d, hn⟩ := h
  exact ⟨rem_ex, ⟨a, b, n, d, hn⟩, ⟨_, d.at_⟩, ⟨_, d.ls⟩⟩
theorem Bs.tr {H1 H2 H3 : Hp} {dk L : Addr} {ns : List Int} {N M : Int} (a : Bs H1 H2 dk L ns N) (b : Bs H2 H3 dk L ns M) : Bs H1 H3 dk L ns M := ⟨rem_trans a.ex b.ex, b.deck, a.bdk, a.bL⟩
theorem Bs.at {H1 H2 : Hp} {dk L : Addr} {ns : List Int} {N M : Int} (hD : Dk H1 dk L ns N) (b : Bs H1 H2 dk L ns M) {v : V} {d : PyData} (n : nl d = true) (h : Dp K H1 v d) : Dp K H2 v d := by
  obtain ⟨x, y, z, dd, _⟩ := hD
  exact dp_ex b.ex _ (dp_rem dd.at_ _ n h)
theorem Bs.ld {H1 H2 : Hp} {dk L p : Addr} {ns : List Int} {N M : Int} (hD : Dk H1 dk L ns N) (b : Bs H1 H2 dk L ns M) (hp : p ≠ dk) {ds : List PyData} (n : nlAll ds = true) (h : LD K H1 p ds) : LD K H2 p ds := by
  obtain ⟨xs, h1, h2⟩ := h
  obtain ⟨x, y, z, dd, _⟩ := hD
  exact ⟨xs, b.ex _ _ (by rw [rem_ne hp]; exact h1), dpAll_ex b.ex _ (dpAll_rem dd.at_ _ n h2)⟩
theorem Dk.ne {dk L p : Addr} {ns : List Int} {N : Int} (h : Dk H dk L ns N) (hp : H p = none) : p ≠ dk := fun z => by
  obtain ⟨a, b, n, d, _⟩ := h
  rw [z, d.at_] at hp
  cases hp
/-- draw(deck, m) as a value -/
def EvR (te : TE) (σ : L2.St) (H : Hp) (p L : Addr) (ns : List Int) (N : Int) (m : Nat) : Prop := ∀ H1, Ex H H1 → ∀ Q : VK, (∀ (r : Nat) H2, r < m → Bs H1 H2 p L ns (N + 1) → Q (nV r) H2) → te σ H1 Q
theorem ev_draw {p L : Addr} {ns : List Int} {m : Nat} {N : Int} {E : XK} (h : Ev ta σ H (.ref p)) (hm : Ev tb σ H (nV m)) (hD : Dk H p L ns N) (hN : N ≤ 1000000000) (h1 : 1 ≤ m) (h2 : m ≤ 1000000000) :
    EvR (tCall spDraw [] E (tCons ta (tCons tb tNil))) σ H p L ns N m := fun H0 e0 Q q =>
  h H0 e0 _ fun H1 e1 => hm H1 (e0.trans e1) _ fun H2 e2 => ⟨p, L, ns, m, N, Eq.refl _, hD.ex (e0.trans (e1.trans e2)), hN, by omega, by omega, fun r H3 hr0 hr1 e3 hD3 => by
    obtain ⟨r, rfl⟩ : ∃ k : Nat, r = (k : Int) := ⟨r.toNat, by omega⟩
    have b : Bs H2 H3 p L ns (N + 1) := by
      obtain ⟨a, b, n, d, _⟩ := hD.ex (e0.trans (e1.trans e2))
      exact ⟨e3, hD3, ⟨_, d.at_⟩, ⟨_, d.ls⟩⟩
    have b0 := ((Bs.rfl (hD.ex e0)).more (e1.trans e2)).tr b
    exact q r H3 (by omega) b0⟩
theorem q_drawV {D : Ends} {tz : TS} {i : Nat} {p L : Addr} {ns : List Int} {m : Nat} {N : Int} (h : EvR te σ H p L ns N m)
    (k : ∀ (r : Nat) H1, r < m → Bs H H1 p L ns (N + 1) → tz D (σ.set i (some (nV r))) H1) : tSeq (tAsg te (gName i)) tz D σ H := h H (Ex.refl H) _ k
end
end WR
set_option Elab.async false
set_option linter.all false
set_option maxRecDepth 100000
set_option maxHeartbeats 4000000
namespace WR
open PySem PySem.Spec PyProof.Rows L2 Evl

/-! ### lists of errors -/
def EvX (te : TE) (σ : L2.St) (H : Hp) (C : Addr) (fs : List (Str × V)) : Prop := ∀ H1, Ex H H1 → ∀ Q : VK, (∀ v H2, Ex H1 H2 → XO H2 v C fs → Q v H2) → te σ H1 Q
inductive XL (H : Hp) : List V → List (Addr × List (Str × V)) → Prop
  | nil : XL H [] []
  | cons {v : V} {C : Addr} {fs : List (Str × V)} {vs : List V} {L : List (Addr × List (Str × V))} : XO H v C fs → XL H vs L → XL H (v :: vs) ((C, fs) :: L)
theorem XL.ex {H H' : Hp} (e : Ex H H') {vs : List V} {L : List (Addr × List (Str × V))} (h : XL H vs L) : XL H' vs L := by
  induction h with
  | nil => exact .nil
  | cons a _ ih => exact .cons (a.ex e) ih
theorem XL.app {H : Hp} {vs ws : List V} {L M : List (Addr × List (Str × V))} (h : XL H vs L) (g : XL H ws M) : XL H (vs ++ ws) (L ++ M) := by
  induction h with
  | nil => exact g
  | cons a _ ih => exact .cons a ih
theorem XL.at {H : Hp} {vs : List V} {L : List (Addr × List (Str × V))} (h : XL H vs L) : ∀ {i : Nat} {C : Addr} {fs : List (Str × V)}, L[i]? = some (C, fs) → ∃ v, vs[i]? = some v ∧ XO H v C fs := by
  induction h with
  | nil => intro i C fs e; simp at e
  | @cons v C fs vs L a _ ih =>
    intro i C' fs' e
    cases i with
    | zero =>
      have e : (C, fs) = (C', fs') := by simpa using e
      cases e
      exact ⟨v, rfl, a⟩
    | succ i => exact ih (by simpa using e)
theorem XL.len {H : Hp} {vs : List V} {L : List (Addr × List (Str × V))} (h : XL H vs L) : vs.length = L.length := by
  induction h with
  | nil => rfl
  | cons _ _ ih => simp [ih]
def EvXA (ta : TA) (σ : L2.St) (H : Hp) (L : List (Addr × List (Str × V))) : Prop := ∀ H1, Ex H H1 → ∀ Q : List V → Hp → Prop, (∀ vs H2, Ex H1 H2 → XL H2 vs L → Q vs H2) → ta σ H1 Q
def EvXN (te : TE) (σ : L2.St) (H : Hp) (L : List (Addr × List (Str × V))) : Prop := ∀ H1, Ex H H1 → ∀ Q : VK, (∀ p vs H2, Ex H1 H2 → H2 p = some (.lst vs) → XL H2 vs L → Q (.ref p) H2) → te σ H1 Q
section
variable {K : PySem.W.Frag} {σ : L2.St} {H : Hp} {te t1 t2 ta tb : TE} {tr : TA} {C : Addr} {fs : List (Str × V)} {L M : List (Addr × List (Str × V))} {x y : V} {f g : Str}
theorem exa_nil : EvXA tNil σ H [] := fun H1 _ _ q => q [] H1 (Ex.refl H1) .nil
theorem exa_cons (h : EvX te σ H C fs) (hr : EvXA tr σ H L) : EvXA (tCons te tr) σ H ((C, fs) :: L) := fun H1 e Q q => h H1 e _ fun v H2 e2 hv => hr H2 (e.trans e2) _ fun vs H3 e3 hvs => q (v :: vs) H3 (e2.trans e3) (.cons (hv.ex e3) hvs)
theorem exn_lst (h : EvXA tr σ H L) (hl : L.length ≤ 100000) : EvXN (tLst tr) σ H L := fun H1 e Q q => h H1 e _ fun vs H2 e2 hvs =>
  ⟨sz_of (by rw [hvs.len]; exact hl), fun p np => q p vs _ (e2.trans (Ex.new np)) upd_same (hvs.ex (Ex.new np))⟩
theorem exn_cat {p : Addr} {vs : List V} (ha : Ev ta σ H (.ref p)) (hp : H p = some (.lst vs)) (hv : XL H vs L) (hb : EvXN tb σ H M) (hl : L.length + M.length ≤ 100000) : EvXN (tOp rCat ta tb) σ H (L ++ M) := fun H1 e Q q =>
  ha H1 e _ fun H2 e2 => hb H2 (e.trans e2) _ fun p2 ws H3 e3 h3 hw => ⟨p, p2, vs, ws, rfl, rfl, (e.trans (e2.trans e3)) _ _ hp, h3, sz_of (by rw [hv.len, hw.len]; exact hl), fun c hc => q c _ _ ((e2.trans e3).trans (Ex.new hc)) upd_same ((hv.ex ((e.trans (e2.trans e3)).trans (Ex.new hc))).app (hw.ex (Ex.new hc)))⟩
theorem q_asgXN {i : Nat} {tz : TS} {D : Ends} (h : EvXN te σ H L) (k : ∀ p vs H1, Ex H H1 → H1 p = some (.lst vs) → XL H1 vs L → tz D (σ.set i (some (.ref p))) H1) : tSeq (tAsg te (gName i)) tz D σ H := h H (Ex.refl H) _ fun p vs H1 e h1 h2 => k p vs H1 e h1 h2
theorem ex_mk {H2 : Hp} {a d : Addr} {o1 o2 o3 : HO} (hna : H2 a = none) (hd : (upd H2 a o1) d = none) (hne : d ≠ a) : Ex H2 (upd (upd (upd H2 a o1) d o2) a o3) := fun b o hb => by
  have hba : b ≠ a := fun z => by rw [z, hna] at hb; cases hb
  have hbd : b ≠ d := fun z => by rw [z] at hb; rw [upd_ne hne] at hd; rw [hd] at hb; cases hb
  rw [upd_ne hba, upd_ne hbd, upd_ne hba]
  exact hb
theorem ex_mk2 {H2 : Hp} {a d : Addr} {o1 o2 o3 o4 : HO} (hna : H2 a = none) (hd : (upd H2 a o1) d = none) (hne : d ≠ a) : Ex H2 (upd (upd (upd (upd H2 a o1) d o2) a o3) d o4) := fun b o hb => by
  have hbd : b ≠ d := fun z => by rw [z] at hb; rw [upd_ne hne] at hd; rw [hd] at hb; cases hb
  rw [upd_ne hbd]
  exact ex_mk hna hd hne b o hb
theorem evx_mk0 : EvX (fun σ H Q => ∀ a, H a = none → Q (.ref a) (upd H a (exo a C none))) σ H C [] := fun H1 e Q q a ha => q (.ref a) _ (Ex.new ha) ⟨a, rfl, .inl ⟨rfl, upd_same⟩⟩
theorem evx_mk1 (h : Ev te σ H x) : EvX (tMkV C (spI1 K C f) (tCons te tNil)) σ H C [(f, x)] := fun H1 e Q q => h H1 e _ fun H2 e2 =>
  ⟨by show 1 ≤ 1000; decide, fun a hna => ⟨a, x, rfl, upd_same, fun d hd hne => ⟨rfl, q (.ref a) _ (e2.trans (ex_mk hna hd hne)) ⟨a, rfl, .inr ⟨d, upd_same, by rw [upd_ne hne]; exact upd_same⟩⟩⟩⟩⟩
theorem evx_mk2 (h : Ev t1 σ H x) (h2 : ∀ H1, Ex H H1 → Ev t2 σ H1 y) : EvX (tMkV C (spI2 K C f g) (tCons t1 (tCons t2 tNil))) σ H C [(g, y), (f, x)] := fun H1 e Q q => h H1 e _ fun H2 e2 => h2 H2 (e.trans e2) H2 (Ex.refl H2) _ fun H3 e3 =>
  ⟨by show 2 ≤ 1000; decide, fun a hna => ⟨a, x, y, rfl, upd_same, fun d hd hne => ⟨rfl, q (.ref a) _ ((e2.trans e3).trans (ex_mk2 hna hd hne)) ⟨a, rfl, .inr ⟨d, by rw [upd_ne (Ne.symm hne)]; exact upd_same, upd_same⟩⟩⟩⟩⟩
theorem evx_mkK1 (h : Ev te σ H x) : EvX (tMkK C (spI1 K C f) gI1 (tCons te tNil)) σ H C [(f, x)] := fun H1 e Q q => h H1 e _ fun H2 e2 =>
  fun a hna => ⟨a, x, rfl, upd_same, fun d hd hne => ⟨rfl, q (.ref a) _ (e2.trans (ex_mk hna hd hne)) ⟨a, rfl, .inr ⟨d, upd_same, by rw [upd_ne hne]; exact upd_same⟩⟩⟩⟩
theorem evx_mkK2 (h : Ev t1 σ H y) (h2 : ∀ H1, Ex H H1 → Ev t2 σ H1 x) : EvX (tMkK C (spI2 K C f g) gI2 (tCons t1 (tCons t2 tNil))) σ H C [(g, y), (f, x)] := fun H1 e Q q => h H1 e _ fun H2 e2 => h2 H2 (e.trans e2) H2 (Ex.refl H2) _ fun H3 e3 =>
  fun a hna => ⟨a, x, y, rfl, upd_same, fun d hd hne => ⟨rfl, q (.ref a) _ ((e2.trans e3).trans (ex_mk2 hna hd hne)) ⟨a, rfl, .inr ⟨d, by rw [upd_ne (Ne.symm hne)]; exact upd_same, upd_same⟩⟩⟩⟩
end
/-- the fields of the i-th class's error -/
def fsX (va vb : V) : Nat → List (Str × V)
  | 1 => [("number", vb), ("word", va)]
  | 2 => [("value", va)]
  | 4 => [("row", vb), ("word", va)]
  | 5 => [("child", vb), ("parent", va)]
  | 6 => [("word", va)]
  | 7 => [("error", va)]
  | 8 => [("names", va)]
  | 9 => [("kind", va)]
  | 13 => [("value", va)]
  | 14 => [("number", va)]
  | 15 => [("place", va)]
  | 16 => [("number", va)]
  | _ => []
def allX (C : Nat → Addr) (va vb : V) : List (Addr × List (Str × V)) := (List.range 17).map fun i => (C i, fsX va vb i)

/-! ### _law_classes -/
def clsD (i : Nat) : List PyData := (List.range 17).map fun j => PyData.bool (decide (j = i))
def spCls (K : PySem.W.Frag) (C : Nat → Addr) : Sp := fun vs H Q _ => ∃ v i fs, vs = [v] ∧ i < 17 ∧ XO H v (C i) fs ∧ ∀ r H', Ex H H' → Dp K H' r (.list (clsD i)) → Q r H'
abbrev nCls : List Str := ["_law_e", "_law_found"]
theorem scCls : FnScope nCls ["_law_e"] (defScope s_law_classes) := ⟨rfl, rfl, rfl, by decide +kernel, rfl, by decide +kernel, by decide +kernel⟩
abbrev nMad : List Str := ["_law_a", "_law_b", "_law_found"]
theorem scMad : FnScope nMad ["_law_a", "_law_b"] (defScope s_law_made) := ⟨rfl, rfl, rfl, by decide +kernel, rfl, by decide +kernel, by decide +kernel⟩
theorem scNam : FnScope nMad ["_law_a", "_law_b"] (defScope s_law_named) := ⟨rfl, rfl, rfl, by decide +kernel, rfl, by decide +kernel, by decide +kernel⟩
def spMad (C : Nat → Addr) : Sp := fun vs H Q _ => ∃ va vb, vs = [va, vb] ∧ ∀ p xs H', Ex H H' → H' p = some (.lst xs) → XL H' xs (allX C va vb) → Q (.ref p) H'
section
variable {P : Program} {w : World} {K : PySem.W.Frag} {mg : Str → Option Value} {base : Heap}
theorem ed_isX {σ : L2.St} {H : Hp} {C : Nat → Addr} {WE : Addr} (XA : XAll P w K mg base C WE) {v : V} {i j : Nat} {fs : List (Str × V)} (h0 : σ[0]? = some (some v)) (h : XO H v (C i) fs) (hi : i < 17) (hj : j < 17) : EvD K (tCB (rIsX K) (tCons (tVar 0) (tCons (tC (.ref (C j))) tNil))) σ H (.bool (decide (j = i))) := fun H1 e Q q => by
  have h' := h.ex e
  obtain ⟨a, rfl, hx⟩ := h'
  exact ⟨.ref a, h0, a, C i, fs, .ref (C j), .ref (C j), _, rfl, ⟨a, rfl, hx⟩, XA.ec i hi, fun u r => by cases r; rfl, XA.kit i j hi hj, q _ H1 (Ex.refl H1) (.bl _)⟩
theorem ok_lclasses {C : Nat → Addr} {WE f : Addr} {fd : FuncData} (F : Fun K "_law_classes" "_law_classes" s_law_classes f fd) (m1 : mg "isinstance" = none) (XA : XAll P w K mg base C WE) :
    FnOk P w K mg base CX0 1 f fd ["_law_e"] (spCls K C) := by
  refine F.ok scCls (fun vs H Q E h => ?_) (fun cdv A outer s H vs Q E hr h => ?_)
  · obtain ⟨v, i, fs, rfl, _⟩ := h
    rfl
  obtain ⟨v, i, fs, rfl, hi, hx, q⟩ := h
  refine ⟨_, pss_cons (ps_set (i := 1) scCls.nd rfl (.inl rfl) (pe_lst (pa_cons (pe_callB call_isX (by rfl) m1 (by decide +kernel) (pa_cons (pv 0) (pa_cons (pe_glob (v := .ref (C 0)) (by rfl) XA.g0 rfl) pa_nil))) (pa_cons (pe_callB call_isX (by rfl) m1 (by decide +kernel) (pa_cons (pv 0) (pa_cons (pe_glob (v := .ref (C 1)) (by rfl) XA.g1 rfl) pa_nil))) (pa_cons (pe_callB call_isX (by rfl) m1 (by decide +kernel) (pa_cons (pv 0) (pa_cons (pe_glob (v := .ref (C 2)) (by rfl) XA.g2 rfl) pa_nil))) (pa_cons (pe_callB call_isX (by rfl) m1 (by decide +kernel) (pa_cons (pv 0) (pa_cons (pe_glob (v := .ref (C 3)) (by rfl) XA.g3 rfl) pa_nil))) pa_nil)))))) (pss_cons (ps_set (i := 1) scCls.nd rfl (.inl rfl) (pe_op op_cat (pv 1) (pe_lst (pa_cons (pe_callB call_isX (by rfl) m1 (by decide +kernel) (pa_cons (pv 0) (pa_cons (pe_glob (v := .ref (C 4)) (by rfl) XA.g4 rfl) pa_nil))) (pa_cons (pe_callB call_isX (by rfl) m1 (by decide +kernel) (pa_cons (pv 0) (pa_cons (pe_glob (v := .ref (C 5)) (by rfl) XA.g5 rfl) pa_nil))) (pa_cons (pe_callB call_isX (by rfl) m1 (by decide +kernel) (pa_cons (pv 0) (pa_cons (pe_glob (v := .ref (C 6)) (by rfl) XA.g6 rfl) pa_nil))) (pa_cons (pe_callB call_isX (by rfl) m1 (by decide +kernel) (pa_cons (pv 0) (pa_cons (pe_glob (v := .ref (C 7)) (by rfl) XA.g7 rfl) pa_nil))) pa_nil))))))) (pss_cons (ps_set (i := 1) scCls.nd rfl (.inl rfl) (pe_op op_cat (pv 1) (pe_lst (pa_cons (pe_callB call_isX (by rfl) m1 (by decide +kernel) (pa_cons (pv 0) (pa_cons (pe_glob (v := .ref (C 8)) (by rfl) XA.g8 rfl) pa_nil))) (pa_cons (pe_callB call_isX (by rfl) m1 (by decide +kernel) (pa_cons (pv 0) (pa_cons (pe_glob (v := .ref (C 9)) (by rfl) XA.g9 rfl) pa_nil))) (pa_cons (pe_callB call_isX (by rfl) m1 (by decide +kernel) (pa_cons (pv 0) (pa_cons (pe_glob (v := .ref (C 10)) (by rfl) XA.g10 rfl) pa_nil))) (pa_cons (pe_callB call_isX (by rfl) m1 (by decide +kernel) (pa_cons (pv 0) (pa_cons (pe_glob (v := .ref (C 11)) (by rfl) XA.g11 rfl) pa_nil))) pa_nil))))))) (pss_cons (ps_set (i := 1) scCls.nd rfl (.inl rfl) (pe_op op_cat (pv 1) (pe_lst (pa_cons (pe_callB call_isX (by rfl) m1 (by decide +kernel) (pa_cons (pv 0) (pa_cons (pe_glob (v := .ref (C 12)) (by rfl) XA.g12 rfl) pa_nil))) (pa_cons (pe_callB call_isX (by rfl) m1 (by decide +kernel) (pa_cons (pv 0) (pa_cons (pe_glob (v := .ref (C 13)) (by rfl) XA.g13 rfl) pa_nil))) (pa_cons (pe_callB call_isX (by rfl) m1 (by decide +kernel) (pa_cons (pv 0) (pa_cons (pe_glob (v := .ref (C 14)) (by rfl) XA.g14 rfl) pa_nil))) pa_nil)))))) (pss_one (ps_ret (pe_op op_cat (pv 1) (pe_lst (pa_cons (pe_callB call_isX (by rfl) m1 (by decide +kernel) (pa_cons (pv 0) (pa_cons (pe_glob (v := .ref (C 15)) (by rfl) XA.g15 rfl) pa_nil))) (pa_cons (pe_callB call_isX (by rfl) m1 (by decide +kernel) (pa_cons (pv 0) (pa_cons (pe_glob (v := .ref (C 16)) (by rfl) XA.g16 rfl) pa_nil))) pa_nil))))))))), ?_⟩
  show tSeq (tAsg _ _) _ _ [some v, none] H
  refine q_asgLD (ed_lst (eda_cons (ed_isX (j := 0) XA rfl hx hi (by decide)) (eda_cons (ed_isX (j := 1) XA rfl hx hi (by decide)) (eda_cons (ed_isX (j := 2) XA rfl hx hi (by decide)) (eda_cons (ed_isX (j := 3) XA rfl hx hi (by decide)) eda_nil)))) (by simp)) fun p1 H1 _ e1 h1 => ?_
  have x1 := hx.ex e1
  refine q_asgLD (en_cat (ev_var rfl) h1 (ed_lst (eda_cons (ed_isX (j := 4) XA rfl x1 hi (by decide)) (eda_cons (ed_isX (j := 5) XA rfl x1 hi (by decide)) (eda_cons (ed_isX (j := 6) XA rfl x1 hi (by decide)) (eda_cons (ed_isX (j := 7) XA rfl x1 hi (by decide)) eda_nil)))) (by simp)) (by simp)) fun p2 H2 _ e2 h2 => ?_
  have x2 := x1.ex e2
  refine q_asgLD (en_cat (ev_var rfl) h2 (ed_lst (eda_cons (ed_isX (j := 8) XA rfl x2 hi (by decide)) (eda_cons (ed_isX (j := 9) XA rfl x2 hi (by decide)) (eda_cons (ed_isX (j := 10) XA rfl x2 hi (by decide)) (eda_cons (ed_isX (j := 11) XA rfl x2 hi (by decide)) eda_nil)))) (by simp)) (by simp)) fun p3 H3 _ e3 h3 => ?_
  have x3 := x2.ex e3
  refine q_asgLD (en_cat (ev_var rfl) h3 (ed_lst (eda_cons (ed_isX (j := 12) XA rfl x3 hi (by decide)) (eda_cons (ed_isX (j := 13) XA rfl x3 hi (by decide)) (eda_cons (ed_isX (j := 14) XA rfl x3 hi (by decide)) eda_nil))) (by simp)) (by simp)) fun p4 H4 _ e4 h4 => ?_
  have x4 := x3.ex e4
  exact s_retD (d := .list (clsD i)) (ed_n (en_cat (ev_var rfl) h4 (ed_lst (eda_cons (ed_isX (j := 15) XA rfl x4 hi (by decide)) (eda_cons (ed_isX (j := 16) XA rfl x4 hi (by decide)) eda_nil)) (by simp)) (by simp))) fun v5 H5 e5 h5 => q v5 H5 ((((e1.trans e2).trans e3).trans e4).trans e5) h5
theorem ok_lmade {C : Nat → Addr} {WE f : Addr} {fd : FuncData} (F : Fun K "_law_made" "_law_made" s_law_made f fd) (XA : XAll P w K mg base C WE) :
    FnOk P w K mg base CX0 3 f fd ["_law_a", "_law_b"] (spMad C) := by
  refine F.ok scMad (fun vs H Q E h => ?_) (fun cdv A outer s H vs Q E hr h => ?_)
  · obtain ⟨va, vb, rfl, _⟩ := h
    rfl
  obtain ⟨va, vb, rfl, q⟩ := h
  obtain ⟨f1, fd1, T1, c1, t1, G1, b1, k1, n1, m1⟩ := XA.i1
  obtain ⟨f2, fd2, T2, c2, t2, G2, b2, k2, n2⟩ := XA.i2
  obtain ⟨f4, fd4, T4, c4, t4, G4, b4, k4, n4, m4⟩ := XA.i4
  obtain ⟨f5, fd5, T5, c5, t5, G5, b5, k5, n5, m5⟩ := XA.i5
  obtain ⟨f6, fd6, T6, c6, t6, G6, b6, k6, n6⟩ := XA.i6
  obtain ⟨f7, fd7, T7, c7, t7, G7, b7, k7, n7⟩ := XA.i7
  obtain ⟨f8, fd8, T8, c8, t8, G8, b8, k8, n8⟩ := XA.i8
  obtain ⟨f9, fd9, T9, c9, t9, G9, b9, k9, n9⟩ := XA.i9
  obtain ⟨f13, fd13, T13, c13, t13, G13, b13, k13, n13⟩ := XA.i13
  obtain ⟨f14, fd14, T14, c14, t14, G14, b14, k14, n14⟩ := XA.i14
  obtain ⟨f15, fd15, T15, c15, t15, G15, b15, k15, n15⟩ := XA.i15
  obtain ⟨f16, fd16, T16, c16, t16, G16, b16, k16, n16⟩ := XA.i16
  refine ⟨_, pss_cons (ps_set (i := 2) scMad.nd rfl (.inl rfl) (pe_lst (pa_cons (pe_mkX0 PySem.F.excBase_ValueError XA.x0 XA.g0 (XA.kC 0 (by decide)) rfl) (pa_cons (pe_mkX T1 c1 t1 G1 hr b1 pass0 rfl XA.g1 (pa_cons (pv 0) (pa_cons (pv 1) pa_nil))) (pa_cons (pe_mkX T2 c2 t2 G2 hr b2 pass0 rfl XA.g2 (pa_cons (pv 0) pa_nil)) (pa_cons (pe_mkX0 PySem.F.excBase_ValueError XA.x3 XA.g3 (XA.kC 3 (by decide)) rfl) (pa_cons (pe_mkX T4 c4 t4 G4 hr b4 pass0 rfl XA.g4 (pa_cons (pv 0) (pa_cons (pv 1) pa_nil))) (pa_cons (pe_mkX T5 c5 t5 G5 hr b5 pass0 rfl XA.g5 (pa_cons (pv 0) (pa_cons (pv 1) pa_nil))) (pa_cons (pe_mkX T6 c6 t6 G6 hr b6 pass0 rfl XA.g6 (pa_cons (pv 0) pa_nil)) (pa_cons (pe_mkX T7 c7 t7 G7 hr b7 pass0 rfl XA.g7 (pa_cons (pv 0) pa_nil)) pa_nil)))))))))) (pss_cons (ps_set (i := 2) scMad.nd rfl (.inl rfl) (pe_op op_cat (pv 2) (pe_lst (pa_cons (pe_mkX T8 c8 t8 G8 hr b8 pass0 rfl XA.g8 (pa_cons (pv 0) pa_nil)) (pa_cons (pe_mkX T9 c9 t9 G9 hr b9 pass0 rfl XA.g9 (pa_cons (pv 0) pa_nil)) (pa_cons (pe_mkX0 PySem.F.excBase_ValueError XA.x10 XA.g10 (XA.kC 10 (by decide)) rfl) (pa_cons (pe_mkX0 PySem.F.excBase_ValueError XA.x11 XA.g11 (XA.kC 11 (by decide)) rfl) (pa_cons (pe_mkX0 PySem.F.excBase_ValueError XA.x12 XA.g12 (XA.kC 12 (by decide)) rfl) (pa_cons (pe_mkX T13 c13 t13 G13 hr b13 pass0 rfl XA.g13 (pa_cons (pv 0) pa_nil)) (pa_cons (pe_mkX T14 c14 t14 G14 hr b14 pass0 rfl XA.g14 (pa_cons (pv 0) pa_nil)) pa_nil)))))))))) (pss_one (ps_ret (pe_op op_cat (pv 2) (pe_lst (pa_cons (pe_mkX T15 c15 t15 G15 hr b15 pass0 rfl XA.g15 (pa_cons (pv 0) pa_nil)) (pa_cons (pe_mkX T16 c16 t16 G16 hr b16 pass0 rfl XA.g16 (pa_cons (pv 0) pa_nil)) pa_nil))))))), ?_⟩
  show tSeq (tAsg _ _) _ _ [some va, some vb, none] H
  refine q_asgXN (exn_lst (exa_cons (C := C 0) (evx_mk0) (exa_cons (C := C 1) (evx_mk2 (ev_var rfl) (fun _ _ => ev_var rfl)) (exa_cons (C := C 2) (evx_mk1 (ev_var rfl)) (exa_cons (C := C 3) (evx_mk0) (exa_cons (C := C 4) (evx_mk2 (ev_var rfl) (fun _ _ => ev_var rfl)) (exa_cons (C := C 5) (evx_mk2 (ev_var rfl) (fun _ _ => ev_var rfl)) (exa_cons (C := C 6) (evx_mk1 (ev_var rfl)) (exa_cons (C := C 7) (evx_mk1 (ev_var rfl)) exa_nil)))))))) (by simp)) fun p1 v1 H1 e1 h1 x1 => ?_
  refine q_asgXN (exn_cat (ev_var rfl) h1 x1 (exn_lst (exa_cons (C := C 8) (evx_mk1 (ev_var rfl)) (exa_cons (C := C 9) (evx_mk1 (ev_var rfl)) (exa_cons (C := C 10) (evx_mk0) (exa_cons (C := C 11) (evx_mk0) (exa_cons (C := C 12) (evx_mk0) (exa_cons (C := C 13) (evx_mk1 (ev_var rfl)) (exa_cons (C := C 14) (evx_mk1 (ev_var rfl)) exa_nil))))))) (by simp)) (by simp)) fun p2 v2 H2 e2 h2 x2 => ?_
  exact exn_cat (ev_var rfl) h2 x2 (exn_lst (exa_cons (C := C 15) (evx_mk1 (ev_var rfl)) (exa_cons (C := C 16) (evx_mk1 (ev_var rfl)) exa_nil)) (by simp)) (by simp) H2 (Ex.refl _) _ fun p v HH e h x => q p v HH ((e1.trans e2).trans e) h x
theorem ok_lnamed {C : Nat → Addr} {WE f : Addr} {fd : FuncData} (F : Fun K "_law_named" "_law_named" s_law_named f fd) (XA : XAll P w K mg base C WE) :
    FnOk P w K mg base CX0 3 f fd ["_law_a", "_law_b"] (spMad C) := by
  refine F.ok scNam (fun vs H Q E h => ?_) (fun cdv A outer s H vs Q E hr h => ?_)
  · obtain ⟨va, vb, rfl, _⟩ := h
    rfl
  obtain ⟨va, vb, rfl, q⟩ := h
  obtain ⟨f1, fd1, T1, c1, t1, G1, b1, k1, n1, m1⟩ := XA.i1
  obtain ⟨f2, fd2, T2, c2, t2, G2, b2, k2, n2⟩ := XA.i2
  obtain ⟨f4, fd4, T4, c4, t4, G4, b4, k4, n4, m4⟩ := XA.i4
  obtain ⟨f5, fd5, T5, c5, t5, G5, b5, k5, n5, m5⟩ := XA.i5
  obtain ⟨f6, fd6, T6, c6, t6, G6, b6, k6, n6⟩ := XA.i6
  obtain ⟨f7, fd7, T7, c7, t7, G7, b7, k7, n7⟩ := XA.i7
  obtain ⟨f8, fd8, T8, c8, t8, G8, b8, k8, n8⟩ := XA.i8
  obtain ⟨f9, fd9, T9, c9, t9, G9, b9, k9, n9⟩ := XA.i9
  obtain ⟨f13, fd13, T13, c13, t13, G13, b13, k13, n13⟩ := XA.i13
  obtain ⟨f14, fd14, T14, c14, t14, G14, b14, k14, n14⟩ := XA.i14
  obtain ⟨f15, fd15, T15, c15, t15, G15, b15, k15, n15⟩ := XA.i15
  obtain ⟨f16, fd16, T16, c16, t16, G16, b16, k16, n16⟩ := XA.i16
  refine ⟨_, pss_cons (ps_set (i := 2) scNam.nd rfl (.inl rfl) (pe_lst (pa_cons (pe_mkX0 PySem.F.excBase_ValueError XA.x0 XA.g0 (XA.kC 0 (by decide)) rfl) (pa_cons (pe_mkXK T1 c1 t1 G1 hr k1 pass0 rfl XA.g1 (pk_cons (pv 1) (pk_cons (pv 0) pk_nil))) (pa_cons (pe_mkXK T2 c2 t2 G2 hr k2 pass0 rfl XA.g2 (pk_cons (pv 0) pk_nil)) (pa_cons (pe_mkX0 PySem.F.excBase_ValueError XA.x3 XA.g3 (XA.kC 3 (by decide)) rfl) (pa_cons (pe_mkXK T4 c4 t4 G4 hr k4 pass0 rfl XA.g4 (pk_cons (pv 1) (pk_cons (pv 0) pk_nil))) pa_nil))))))) (pss_cons (ps_set (i := 2) scNam.nd rfl (.inl rfl) (pe_op op_cat (pv 2) (pe_lst (pa_cons (pe_mkXK T5 c5 t5 G5 hr k5 pass0 rfl XA.g5 (pk_cons (pv 1) (pk_cons (pv 0) pk_nil))) (pa_cons (pe_mkXK T6 c6 t6 G6 hr k6 pass0 rfl XA.g6 (pk_cons (pv 0) pk_nil)) (pa_cons (pe_mkXK T7 c7 t7 G7 hr k7 pass0 rfl XA.g7 (pk_cons (pv 0) pk_nil)) (pa_cons (pe_mkXK T8 c8 t8 G8 hr k8 pass0 rfl XA.g8 (pk_cons (pv 0) pk_nil)) (pa_cons (pe_mkXK T9 c9 t9 G9 hr k9 pass0 rfl XA.g9 (pk_cons (pv 0) pk_nil)) pa_nil)))))))) (pss_cons (ps_set (i := 2) scNam.nd rfl (.inl rfl) (pe_op op_cat (pv 2) (pe_lst (pa_cons (pe_mkX0 PySem.F.excBase_ValueError XA.x10 XA.g10 (XA.kC 10 (by decide)) rfl) (pa_cons (pe_mkX0 PySem.F.excBase_ValueError XA.x11 XA.g11 (XA.kC 11 (by decide)) rfl) (pa_cons (pe_mkX0 PySem.F.excBase_ValueError XA.x12 XA.g12 (XA.kC 12 (by decide)) rfl) (pa_cons (pe_mkXK T13 c13 t13 G13 hr k13 pass0 rfl XA.g13 (pk_cons (pv 0) pk_nil)) (pa_cons (pe_mkXK T14 c14 t14 G14 hr k14 pass0 rfl XA.g14 (pk_cons (pv 0) pk_nil)) pa_nil)))))))) (pss_one (ps_ret (pe_op op_cat (pv 2) (pe_lst (pa_cons (pe_mkXK T15 c15 t15 G15 hr k15 pass0 rfl XA.g15 (pk_cons (pv 0) pk_nil)) (pa_cons (pe_mkXK T16 c16 t16 G16 hr k16 pass0 rfl XA.g16 (pk_cons (pv 0) pk_nil)) pa_nil)))))))), ?_⟩
  show tSeq (tAsg _ _) _ _ [some va, some vb, none] H
  refine q_asgXN (exn_lst (exa_cons (C := C 0) (evx_mk0) (exa_cons (C := C 1) (evx_mkK2 (ev_var rfl) (fun _ _ => ev_var rfl)) (exa_cons (C := C 2) (evx_mkK1 (ev_var rfl)) (exa_cons (C := C 3) (evx_mk0) (exa_cons (C := C 4) (evx_mkK2 (ev_var rfl) (fun _ _ => ev_var rfl)) exa_nil))))) (by simp)) fun p1 v1 H1 e1 h1 x1 => ?_
  refine q_asgXN (exn_cat (ev_var rfl) h1 x1 (exn_lst (exa_cons (C := C 5) (evx_mkK2 (ev_var rfl) (fun _ _ => ev_var rfl)) (exa_cons (C := C 6) (evx_mkK1 (ev_var rfl)) (exa_cons (C := C 7) (evx_mkK1 (ev_var rfl)) (exa_cons (C := C 8) (evx_mkK1 (ev_var rfl)) (exa_cons (C := C 9) (evx_mkK1 (ev_var rfl)) exa_nil))))) (by simp)) (by simp)) fun p2 v2 H2 e2 h2 x2 => ?_
  refine q_asgXN (exn_cat (ev_var rfl) h2 x2 (exn_lst (exa_cons (C := C 10) (evx_mk0) (exa_cons (C := C 11) (evx_mk0) (exa_cons (C := C 12) (evx_mk0) (exa_cons (C := C 13) (evx_mkK1 (ev_var rfl)) (exa_cons (C := C 14) (evx_mkK1 (ev_var rfl)) exa_nil))))) (by simp)) (by simp)) fun p3 v3 H3 e3 h3 x3 => ?_
  exact exn_cat (ev_var rfl) h3 x3 (exn_lst (exa_cons (C := C 15) (evx_mkK1 (ev_var rfl)) (exa_cons (C := C 16) (evx_mkK1 (ev_var rfl)) exa_nil)) (by simp)) (by simp) H3 (Ex.refl _) _ fun p v HH e h x => q p v HH (((e1.trans e2).trans e3).trans e) h x
end
end WR
set_option Elab.async false
set_option linter.all false
set_option maxRecDepth 100000
set_option maxHeartbeats 4000000
namespace WR
open PySem PySem.Spec PyProof.Rows L2 Evl

/-! ### a list that is none of the datum's may go -/
mutual
def offB (n : Nat) : PyData → Bool
  | .list ds => (ds.length != n) && offAll n ds
  | .tuple ds => offAll n ds
  | .dict _ => false
  | _ => true
def offAll (n : Nat) : List PyData → Bool
  | [] => true
  | d :: ds => offB n d && offAll n ds
end
mutual
theorem dp_off {K : PySem.W.Frag} {H : Hp} {l : Addr} {ys : List V} (hl : H l = some (.lst ys)) : ∀ {v : V} (d : PyData), offB ys.length d = true → Dp K H v d → Dp K (rem H l) v d
  | _, .none, _, h => by cases h; exact .non
  | _, .bool _, _, h => by cases h; exact .bl _
  | _, .int _, _, h => by cases h; exact .int _
  | _, .str _, _, h => by cases h; exact .str _
  | _, .list ds, n, h => by
    have n' : ((ds.length != ys.length) && offAll ys.length ds) = true := by simpa only [offB] using n
    rw [Bool.and_eq_true, bne_iff_ne] at n'
    cases h with
    | @lst a xs _ sq b =>
      have hb := dpAll_off hl ds n'.2 b
      rcases sq with (sq | ⟨o, sq⟩) | sq
      · have hne : a ≠ l := fun z => by
          rw [z, hl] at sq
          cases sq
          exact n'.1 (dpAll_len b).symm
        exact .lst (.inl (.inl (by rw [rem_ne hne]; exact sq))) hb
      · exact .lst (.inl (.inr ⟨o, by rw [rem_ne (ne_of sq hl (by intro z; cases z))]; exact sq⟩)) hb
      · exact .lst (.inr sq) hb
  | _, .tuple ds, n, h => by
    have n' : offAll ys.length ds = true := by simpa only [offB] using n
    cases h with
    | tup a b => exact .tup (rem_tL hl a) (dpAll_off hl ds n' b)
  | _, .dict _, _, h => by cases h
theorem dpAll_off {K : PySem.W.Frag} {H : Hp} {l : Addr} {ys : List V} (hl : H l = some (.lst ys)) : ∀ {vs : List V} (ds : List PyData), offAll ys.length ds = true → DpAll K H vs ds → DpAll K (rem H l) vs ds
  | _, [], _, h => by cases h; exact .nil
  | _, d :: ds, n, h => by
    have n' : (offB ys.length d && offAll ys.length ds) = true := by simpa only [offAll] using n
    rw [Bool.and_eq_true] at n'
    cases h with
    | cons a b => exact .cons (dp_off hl d n'.1 a) (dpAll_off hl ds n'.2 b)
end
theorem exr1 {H H' : Hp} {d : Addr} (e : Ex (rem H d) H') : Ex (rem H d) (rem H' d) := fun a o h => by
  have hne : a ≠ d := fun z => by
    subst z
    have h : (if a = a then none else H a) = some o := h
    rw [if_pos rfl] at h
    cases h
  rw [rem_ne hne]
  exact e a o h

/-! ### _law_any -/
def anyD : List PyData := [.int 0, .int 7, .int (-3), .int (10 ^ 40), .bool true, .none, .str "", .str "sum", .tuple [], .tuple [.int 1, .int 2], .list [.int 3], .list [], .tuple [.str "in", .int (-1)], .str "x", .tuple [.none, .str "web"]]
def smB (d : PyData) : Bool := d.showable && !d.hasDict && d.leavesShort 60 && decide (d.weight ≤ 400) && decide (d.depth ≤ 2) && offB 4 d
theorem any_b : anyD.all smB = true := by decide +kernel
theorem any_sm {d : PyData} (h : d ∈ anyD) : Sm 400 2 d ∧ offB 4 d = true := by
  have q := List.all_eq_true.mp any_b d h
  unfold smB at q
  simp only [Bool.and_eq_true, decide_eq_true_eq, Bool.not_eq_true'] at q
  obtain ⟨⟨⟨⟨⟨a, b⟩, c⟩, e⟩, f⟩, g⟩ := q
  exact ⟨⟨a, b, c, e, f⟩, g⟩
def spAny (K : PySem.W.Frag) : Sp := fun vs H Q _ => ∃ dk L ns N, vs = [.ref dk] ∧ Dk H dk L ns N ∧ N ≤ 500000000 ∧ ∀ r H' d, Bs H H' dk L ns (N + 1) → d ∈ anyD → Dp K (rem H' dk) r d → Q r H'
abbrev nAny : List Str := ["_law_deck_here", "_law_some"]
theorem scAny : FnScope nAny ["_law_deck_here"] (defScope s_law_any) := ⟨rfl, rfl, rfl, by decide +kernel, rfl, by decide +kernel, by decide +kernel⟩
theorem ed_strX {K : PySem.W.Frag} {σ : L2.St} {H : Hp} {z : Str} : EvD K (tC (.str z)) σ H (.str z) := fun H1 _ Q q => q _ H1 (Ex.refl H1) (.str z)
theorem ev_neSame {K : PySem.W.Frag} {σ : L2.St} {H : Hp} {ta tb : TE} {d : PyData} (h1 : EvD K ta σ H d) (h2 : EvD K tb σ H d) (hs : SeqAt.shaped d = true) (he : PyData.eqv d d = true) : Ev (tOp (rNeD K) ta tb) σ H (.bl false) := fun H1 e Q q =>
  h1 H1 e _ fun v H2 e2 hv => h2 H2 (e.trans e2) _ fun w H3 e3 hw => ⟨d, d, dp_ex e3 _ hv, hw, hs, hs, by
    rw [he]
    exact q _ (e2.trans e3)⟩
theorem ev_eqSame {K : PySem.W.Frag} {σ : L2.St} {H : Hp} {ta tb : TE} {d : PyData} (h1 : EvD K ta σ H d) (h2 : EvD K tb σ H d) (hs : SeqAt.shaped d = true) (he : PyData.eqv d d = true) : Ev (tOp (rEqD K) ta tb) σ H (.bl true) := fun H1 e Q q =>
  h1 H1 e _ fun v H2 e2 hv => h2 H2 (e.trans e2) _ fun w H3 e3 hw => ⟨d, d, dp_ex e3 _ hv, hw, hs, hs, by
    rw [he]
    exact q _ (e2.trans e3)⟩
theorem exn_if {t : TT} {ta tb : TE} {σ : L2.St} {H : Hp} {L : List (Addr × List (Str × V))} {b : Bool} (h : EvT t σ H b) (h1 : EvXN ta σ H L) (h2 : EvXN tb σ H L) : EvXN (tIf t ta tb) σ H L := fun H1 e Q q => h H1 e _ fun H2 e2 => by
  cases b with
  | true =>
    show ta σ H2 Q
    exact h1 H2 (e.trans e2) Q fun p vs H3 e3 h3 hd => q p vs H3 (e2.trans e3) h3 hd
  | false =>
    show tb σ H2 Q
    exact h2 H2 (e.trans e2) Q fun p vs H3 e3 h3 hd => q p vs H3 (e2.trans e3) h3 hd
theorem cls_ok : ((List.range 17).all fun k => SeqAt.shaped (.list (clsD k)) && PyData.eqv (.list (clsD k)) (.list (clsD k))) = true := by decide +kernel
theorem cls_k {k : Nat} (h : k < 17) : SeqAt.shaped (.list (clsD k)) = true ∧ PyData.eqv (.list (clsD k)) (.list (clsD k)) = true := by
  have q := List.all_eq_true.mp cls_ok k (List.mem_range.mpr h)
  exact Bool.and_eq_true_iff.mp q
def othF (k : Nat) : PyData → Option PyData
  | .int o => some (.bool (decide (o = (k : Int))))
  | _ => none
theorem oth_cls (k : Nat) : (rngD 0 17).filterMap (othF k) = clsD k := by
  unfold rngD clsD
  rw [List.filterMap_map, ← List.filterMap_eq_map]
  congr 1
  funext j
  show some (PyData.bool (decide ((0 : Int) + (j : Int) = (k : Int)))) = some (PyData.bool (decide (j = k)))
  have : decide ((0 : Int) + (j : Int) = (k : Int)) = decide (j = k) := decide_eq_decide.mpr (by omega)
  rw [this]
def fldD (a b : PyData) : List PyData := [a, b, a, a, b, a, b, a, a, a, a, a, a, a, a]
theorem fld_ok {a b : PyData} (ha : a ∈ anyD) (hb : b ∈ anyD) : okR (.list (fldD a b)) = true := by
  refine (sm_lst (w := 400) (dp := 2) (n := 15) (fun d hd => ?_) (by simp [fldD])).ok (by decide) (by decide)
  have : d = a ∨ d = b := by
    unfold fldD at hd
    simp only [List.mem_cons, List.not_mem_nil, or_false] at hd
    rcases hd with h | h | h | h | h | h | h | h | h | h | h | h | h | h | h <;> simp [h]
  rcases this with rfl | rfl
  · exact (any_sm ha).1
  · exact (any_sm hb).1
theorem q_par01 {σ : L2.St} {H : Hp} {D : Ends} {tz : TS} {i j : Nat} {ta : TA} (h : ta σ H fun vs H1 => ∃ v w, vs = [v, w] ∧ tz D ((σ.set i (some v)).set j (some w)) H1) : tSeq (tPar i j ta) tz D σ H := h
def maxD : List PyData := [.int 8, .int 20, .int 12, .int 9, .int 300, .int 30]
theorem max_ok : SeqAt.shaped (.list maxD) = true ∧ PyData.eqv (.list maxD) (.list maxD) = true := by decide +kernel

/-! ### the law k01 -/
abbrev nLaw : List Str := ["_law_script", "_law_deck_here", "_law_turn", "_law_a", "_law_b", "_law_some", "_law_k", "_law_found", "_law_other"]
theorem scLaw : FnScope nLaw ["_law_script"] (defScope sLaw) := ⟨rfl, rfl, rfl, by decide +kernel, rfl, by decide +kernel, by decide +kernel⟩
def spLaw (K : PySem.W.Frag) : Sp := fun vs H Q _ => ∃ (a : Addr) (ns : List Int), vs = [.ref a] ∧ SqL K H a (ns.map V.int) ∧ ns.length ≤ 63 ∧ ∀ H', Q (.bl true) H'
section
variable {P : Program} {w : World} {K : PySem.W.Frag} {mg : Str → Option Value} {base : Heap}
theorem ok_lany {f fO : Addr} {fd fdO : FuncData} (F : Fun K "_law_any" "_law_any" s_law_any f fd)
    (FO : Fun K "_law_one" "_law_one" sOne fO fdO) (bO : Binds K fdO ["_law_deck_here", "_law_items"] []) (gO : mg "_law_one" = some (.ref fO))
    (GO : FnOk P w K mg base CX0 2 fO fdO ["_law_deck_here", "_law_items"] (spOne K)) :
    FnOk P w K mg base CX0 3 f fd ["_law_deck_here"] (spAny K) := by
  refine F.ok scAny (fun vs H Q E h => ?_) (fun cdv A outer s H vs Q E hr h => ?_)
  · obtain ⟨dk, L, ns, N, rfl, _⟩ := h
    rfl
  obtain ⟨dk, L, ns, N, rfl, hD, hN, q⟩ := h
  refine ⟨_, pss_cons (ps_set (i := 1) scAny.nd rfl (.inl rfl) (pe_lst (pa_cons (pe_int) (pa_cons (pe_int) (pa_cons (pe_un un_neg pe_int) (pa_cons (pe_op op_pow pe_int pe_int) (pa_cons (pe_bl) (pa_cons (pe_non) (pa_cons (pe_str) (pa_cons (pe_str) (pa_cons (pe_tup pa_nil) (pa_cons (pe_tup (pa_cons pe_int (pa_cons pe_int pa_nil))) (pa_cons (pe_lst (pa_cons pe_int pa_nil)) (pa_cons (pe_lst pa_nil) (pa_cons (pe_tup (pa_cons pe_str (pa_cons (pe_un un_neg pe_int) pa_nil))) (pa_cons (pe_str) (pa_cons (pe_tup (pa_cons pe_non (pa_cons pe_str pa_nil))) pa_nil))))))))))))))))) (pss_one (ps_ret (pe_call GO hr (by rfl) gO FO.kp bO .nil pass0 (pa_cons (pv 0) (pa_cons (pv 1) pa_nil))))), ?_⟩
  show tSeq (tAsg _ _) _ _ [some (.ref dk), none] H
  refine q_asgN (K := K) (ds := anyD) (ed_lst (eda_cons (ed_i ev_c) (eda_cons (ed_i ev_c) (eda_cons (ed_ev (ev_un ev_c ru_neg) (.int _)) (eda_cons (ed_i (ev_is (ev_op (x := .int 10) (y := .int 40) ev_c ev_c (rv_I ⟨by decide, by decide, by decide⟩)) (by rfl))) (eda_cons (ed_b ev_c) (eda_cons (ed_ev ev_c .non) (eda_cons (ed_strX) (eda_cons (ed_strX) (eda_cons (ed_tup eda_nil (by decide)) (eda_cons (ed_tup (eda_cons (ed_i ev_c) (eda_cons (ed_i ev_c) eda_nil)) (by decide)) (eda_cons (ed_n (ed_lst (eda_cons (ed_i ev_c) eda_nil) (by decide))) (eda_cons (ed_n (ed_lst eda_nil (by decide))) (eda_cons (ed_tup (eda_cons ed_strX (eda_cons (ed_ev (ev_un ev_c ru_neg) (.int _)) eda_nil)) (by decide)) (eda_cons (ed_strX) (eda_cons (ed_tup (eda_cons (ed_ev ev_c .non) (eda_cons ed_strX eda_nil)) (by decide)) eda_nil))))))))))))))) (by decide)) fun p xs H1 hp e1 h1 x1 => ?_
  have hD1 := hD.ex e1
  have hne : p ≠ dk := fun z => by
    obtain ⟨a, b, n, d, hn⟩ := hD
    rw [z, d.at_] at hp
    cases hp
  have hlen : xs.length = 15 := dpAll_len x1
  refine ⟨.ref dk, rfl, .ref p, rfl, dk, L, ns, N, p, xs, rfl, hD1, by omega, h1, hne, by omega, by omega, fun x H' hx e hD' => ?_⟩
  obtain ⟨i, hi⟩ := List.getElem?_of_mem hx
  obtain ⟨d, hd, hxd⟩ := dpAll_at x1 hi
  have hm : d ∈ anyD := List.mem_of_getElem? hd
  have hoff : Dp K (rem H1 dk) x d := by
    obtain ⟨a, b, n, d', hn⟩ := hD1
    exact dp_off d'.at_ d (any_sm hm).2 hxd
  exact q x H' d (((Bs.rfl hD).more e1).tr ⟨e, hD', (Bs.rfl hD1).bdk, (Bs.rfl hD1).bL⟩) hm (dp_ex (exr1 e) _ hoff)
theorem ed_xa {σ : L2.St} {H : Hp} {C : Nat → Addr} {WE : Addr} (XA : XAll P w K mg base C WE) {va vb u : V} {d : PyData} {n : Str} {i : Nat} {iz : Int} {xs : List V} {p : Addr} (h5 : σ[5]? = some (some (.ref p))) (hp : H p = some (.lst xs)) (hx : XL H xs (allX C va vb)) (hi : i < 17) (hz : iz = (i : Int))
    (hne : fsX va vb i ≠ []) (hl : (fsX va vb i).lookup n = some u) (hno : PySem.W.findIn K (.ref (C i)) n = some none) (hu : Dp K H u d) : EvD K (tXa K n (tOp (rIxL K) (tVar 5) (tC (.int iz)))) σ H d := fun H1 e Q q => by
  subst hz
  obtain ⟨v, hv, ho⟩ := (hx.ex e).at (i := i) (C := C i) (fs := fsX va vb i) (by unfold allX; rw [List.getElem?_map, List.getElem?_range hi]; rfl)
  obtain ⟨a, rfl, ho⟩ := ho
  rcases ho with ⟨h, _⟩ | ⟨dd, h1, h2⟩
  · exact absurd h hne
  · exact (ev_op (ev_var h5) ev_c (rv_ixL (K := K) (sq_of (e _ _ hp)) (atI_nat hv))) H1 (Ex.refl H1) _ fun H2 e2 => ⟨a, C i, dd, _, u, rfl, e2 _ _ h1, e2 _ _ h2, XA.ec i hi, hno, hl, q u H2 e2 (dp_ex (e.trans e2) _ hu)⟩
theorem runs_law {C : Nat → Addr} {WE f fD fN fC fM fB : Addr} {fd fdD fdN fdC fdM fdB : FuncData} {t1 t2 t3 t4 t5 t6 : Nat} (F : Fun K "law" "law" sLaw f fd)
    (FD : Fun K "_law_deck" "_law_deck" sDeck fD fdD) (bD : Binds K fdD ["_law_script"] []) (gD : mg "_law_deck" = some (.ref fD))
    (FN : Fun K "_law_any" "_law_any" s_law_any fN fdN) (bN : Binds K fdN ["_law_deck_here"] []) (gN : mg "_law_any" = some (.ref fN))
    (FC : Fun K "_law_classes" "_law_classes" s_law_classes fC fdC) (bC : Binds K fdC ["_law_e"] []) (gC : mg "_law_classes" = some (.ref fC))
    (FM : Fun K "_law_made" "_law_made" s_law_made fM fdM) (bM : Binds K fdM ["_law_a", "_law_b"] []) (gM : mg "_law_made" = some (.ref fM))
    (FB : Fun K "_law_named" "_law_named" s_law_named fB fdB) (bB : Binds K fdB ["_law_a", "_law_b"] []) (gB : mg "_law_named" = some (.ref fB))
    (m1 : mg "range" = none) (m2 : mg "repr" = none) (m3 : mg "isinstance" = none) (m4 : mg "ValueError" = none)
    (y1 : mg "MAX_LEAVES" = some (.int 8 t1)) (y2 : mg "MAX_INNER" = some (.int 20 t2)) (y3 : mg "MAX_WEBS" = some (.int 12 t3)) (y4 : mg "MAX_FILLED" = some (.int 9 t4)) (y5 : mg "MAX_CHOICES" = some (.int 300 t5)) (y6 : mg "MAX_DEEDS" = some (.int 30 t6))
    (XA : XAll P w K mg base C WE)
    (GD : FnOk P w K mg base CX0 1 fD fdD ["_law_script"] (spDeck K))
    (GN : FnOk P w K mg base CX0 3 fN fdN ["_law_deck_here"] (spAny K))
    (GC : FnOk P w K mg base CX0 1 fC fdC ["_law_e"] (spCls K C))
    (GM : FnOk P w K mg base CX0 3 fM fdM ["_law_a", "_law_b"] (spMad C))
    (GB : FnOk P w K mg base CX0 3 fB fdB ["_law_a", "_law_b"] (spMad C)) :
    RunsG P w K mg base f fd "_law_script" (spLaw K) := by
  refine runsG_of (k := 3) F scLaw ⟨rfl, by decide, by decide⟩ fun cdv s H v Q hr h => ?_
  obtain ⟨a, ns, ev, hS, hlen, q⟩ := h
  cases ev
  have r1 := hr.mono (show 1 ≤ 3 by decide)
  have hu := hr.units
  apply Exists.intro
  apply And.intro
  case left =>
    refine' pss_cons (ps_set (i := 1) scLaw.nd rfl (.inl rfl) (pe_call GD r1 (by rfl) gD FD.kp bD .nil pass0 (pa_cons (pv 0) pa_nil))) ?r0
    case' r0 => skip
    refine' pss_cons (ps_for PassesOwn.never rfl (pi_range1 (by rfl) m1 (pa_cons pe_int pa_nil)) (pg_name (i := 2) scLaw.nd rfl (.inl rfl)) ?b0) ?r1
    case' b0 =>
      refine' pss_cons (ps_par (i := 3) (j := 4) rfl scLaw.nd rfl rfl (by decide) rfl rfl (pa_cons (pe_call GN hr (by rfl) gN FN.kp bN .nil pass0 (pa_cons (pv 1) pa_nil)) (pa_cons (pe_call GN hr (by rfl) gN FN.kp bN .nil pass0 (pa_cons (pv 1) pa_nil)) pa_nil)) rfl) ?b1
      case' b1 => skip
      refine' pss_cons (ps_set (i := 5) scLaw.nd rfl (.inl rfl) (pe_ifExp (pt_cmpR op_eq (pe_op op_mod (pv 2) pe_int) pe_int (nomark _)) (pe_call GM hr (by rfl) gM FM.kp bM .nil pass0 (pa_cons (pv 3) (pa_cons (pv 4) pa_nil))) (pe_call GB hr (by rfl) gB FB.kp bB .nil pass0 (pa_cons (pv 3) (pa_cons (pv 4) pa_nil))))) ?b2
      case' b2 => skip
      refine' pss_cons (ps_for PassesOwn.never rfl (pi_range1 (by rfl) m1 (pa_cons pe_int pa_nil)) (pg_name (i := 6) scLaw.nd rfl (.inr rfl)) ?c0) ?b3
      case' c0 =>
        refine' pss_cons (ps_if (pt_cmpR (op_neD hu) (pe_call GC r1 (by rfl) gC FC.kp bC .nil pass0 (pa_cons (pe_ix (r := rIxL K) ix_list (pv 5) (pv 6) (fun _ _ => rfl)) pa_nil))
          (pe_lc (own := [("_law_other", 8)]) (g := gName 8) (tt := tYes) (te := tOp rEq (tVar 8) (tVar 6)) rfl scLaw.nd (pi_range1 (by rfl) m1 (pa_cons pe_int pa_nil)) (blkOk_by (N := nLaw) (sc := defScope sLaw) (by decide +kernel))
            (fun _ _ _ _ _ => pg_name (i := 8) scLaw.nd rfl (Or.inl rfl)) (fun _ _ _ _ _ => pts_nil) (fun _ _ _ _ _ => pe_cmpR op_eq (pv 8) (pv 6) (nomark _))) (nomark _)) (pss_one (ps_ret pe_bl)) pss_nil) ?c1
        case' c1 => skip
        exact pss_one (ps_if (PW.pt (pw_or (pt_not (pt_val (pe_callB call_isX (by rfl) m3 (by decide +kernel) (pa_cons (pe_ix (r := rIxL K) ix_list (pv 5) (pv 6) (fun _ _ => rfl)) (pa_cons (pe_glob (v := .ref WE) (by rfl) XA.gW rfl) pa_nil)))))
          (pw_or1 (pt_not (pt_val (pe_callB call_isX (by rfl) m3 (by decide +kernel) (pa_cons (pe_ix (r := rIxL K) ix_list (pv 5) (pv 6) (fun _ _ => rfl)) (pa_cons (pe_bltn (by rfl) m4 (by decide +kernel) (v := .ty "ValueError") rfl) pa_nil)))))))) (pss_one (ps_ret pe_bl)) pss_nil)
      case' b3 => skip
      refine' pss_cons (ps_set (i := 7) scLaw.nd rfl (.inl rfl) (pe_lst (pa_cons (pe_xa (pe_ix (r := rIxL K) ix_list (pv 5) pe_int (fun _ _ => rfl))) (pa_cons (pe_xa (pe_ix (r := rIxL K) ix_list (pv 5) pe_int (fun _ _ => rfl))) (pa_cons (pe_xa (pe_ix (r := rIxL K) ix_list (pv 5) pe_int (fun _ _ => rfl))) (pa_cons (pe_xa (pe_ix (r := rIxL K) ix_list (pv 5) pe_int (fun _ _ => rfl))) (pa_cons (pe_xa (pe_ix (r := rIxL K) ix_list (pv 5) pe_int (fun _ _ => rfl))) (pa_cons (pe_xa (pe_ix (r := rIxL K) ix_list (pv 5) pe_int (fun _ _ => rfl))) (pa_cons (pe_xa (pe_ix (r := rIxL K) ix_list (pv 5) pe_int (fun _ _ => rfl))) pa_nil))))))))) ?b4
      case' b4 => skip
      refine' pss_cons (ps_set (i := 7) scLaw.nd rfl (.inl rfl) (pe_op op_cat (pv 7) (pe_lst (pa_cons (pe_xa (pe_ix (r := rIxL K) ix_list (pv 5) pe_int (fun _ _ => rfl))) (pa_cons (pe_xa (pe_ix (r := rIxL K) ix_list (pv 5) pe_int (fun _ _ => rfl))) (pa_cons (pe_xa (pe_ix (r := rIxL K) ix_list (pv 5) pe_int (fun _ _ => rfl))) (pa_cons (pe_xa (pe_ix (r := rIxL K) ix_list (pv 5) pe_int (fun _ _ => rfl))) (pa_cons (pe_xa (pe_ix (r := rIxL K) ix_list (pv 5) pe_int (fun _ _ => rfl))) (pa_cons (pe_xa (pe_ix (r := rIxL K) ix_list (pv 5) pe_int (fun _ _ => rfl))) pa_nil))))))))) ?b5
      case' b5 => skip
      refine' pss_cons (ps_set (i := 7) scLaw.nd rfl (.inl rfl) (pe_op op_cat (pv 7) (pe_lst (pa_cons (pe_xa (pe_ix (r := rIxL K) ix_list (pv 5) pe_int (fun _ _ => rfl))) (pa_cons (pe_xa (pe_ix (r := rIxL K) ix_list (pv 5) pe_int (fun _ _ => rfl))) pa_nil))))) ?b6
      case' b6 => skip
      exact pss_one (ps_if (pt_cmpR op_ne (pe_callB (call_reprA rfl hu) (by rfl) m2 (by decide +kernel) (pa_cons (pv 7) pa_nil)) (pe_callB (call_reprA rfl hu) (by rfl) m2 (by decide +kernel) (pa_cons (pe_lst (pa_cons (pv 3) (pa_cons (pv 4) (pa_cons (pv 3) (pa_cons (pv 3) (pa_cons (pv 4) (pa_cons (pv 3) (pa_cons (pv 4) (pa_cons (pv 3) (pa_cons (pv 3) (pa_cons (pv 3) (pa_cons (pv 3) (pa_cons (pv 3) (pa_cons (pv 3) (pa_cons (pv 3) (pa_cons (pv 3) pa_nil)))))))))))))))) pa_nil)) (nomark _)) (pss_one (ps_ret pe_bl)) pss_nil)
    case' r1 => skip
    exact pss_one (ps_ret (pe_cmpR (op_eqD hu) (pe_lst (pa_cons (pe_glob (v := .int 8) (by rfl) y1 ⟨_, rfl⟩) (pa_cons (pe_glob (v := .int 20) (by rfl) y2 ⟨_, rfl⟩) (pa_cons (pe_glob (v := .int 12) (by rfl) y3 ⟨_, rfl⟩) (pa_cons (pe_glob (v := .int 9) (by rfl) y4 ⟨_, rfl⟩) (pa_cons (pe_glob (v := .int 300) (by rfl) y5 ⟨_, rfl⟩) (pa_cons (pe_glob (v := .int 30) (by rfl) y6 ⟨_, rfl⟩) pa_nil)))))))
      (pe_lst (pa_cons pe_int (pa_cons pe_int (pa_cons pe_int (pa_cons pe_int (pa_cons pe_int (pa_cons pe_int pa_nil))))))) (nomark _)))
  case right =>
    refine q_deck (K := K) (ev_var rfl) hS hlen fun dk Lk H1 hdk _ e1 hD => ?_
    let S (x2 x3 x4 x5 x6 x7 x8 : Option V) : L2.St := [some (.ref a), some (.ref dk), x2, x3, x4, x5, x6, x7, x8]
    show tSeq (tFor _ _ _) _ _ (S none none none none none none none) H1
    refine q_forR1 (n := 6) (ea_cons ev_c ea_nil) (by decide) (fun i σ' H' => (∃ x2 x3 x4 x5 x6 x7 x8, σ' = S x2 x3 x4 x5 x6 x7 x8) ∧ Dk H' dk Lk ns (4 * i)) (fun H2 e2 => ⟨⟨_, _, _, _, _, _, _, rfl⟩, by simpa using hD.ex e2⟩) (fun i σ' H' hi hP => ?_) fun σ' H' hP => ?_
    · obtain ⟨⟨x2, x3, x4, x5, x6, x7, x8, rfl⟩, hD⟩ := hP
      show tSeq (tPar 3 4 _) _ _ (S (some (.int (i : Int))) x3 x4 x5 x6 x7 x8) H'
      refine q_par01 ?_
      refine ⟨.ref dk, rfl, dk, Lk, ns, _, rfl, hD, by omega, fun r1 H2 d1 b2 m1 v1 => ?_⟩
      refine ⟨.ref dk, rfl, dk, Lk, ns, _, rfl, b2.deck, by omega, fun r2 H3 d2 b3 m2 v2 => ?_⟩
      refine ⟨r1, r2, rfl, ?_⟩
      have hva : Dp K H3 r1 d1 := dp_ex rem_ex _ (dp_ex (exr1 b3.ex) _ v1)
      have hvb : Dp K H3 r2 d2 := dp_ex rem_ex _ v2
      have hD3 : Dk H3 dk Lk ns (4 * ((i + 1 : Nat) : Int)) := (b3.wk (M := 4 * ((i + 1 : Nat) : Int)) (by omega)).deck
      show tSeq (tAsg _ _) _ _ (S (some (.int (i : Int))) (some r1) (some r2) x5 x6 x7 x8) H3
      have hmk : EvXN (tCall (spMad C) [] E0 (tCons (tVar 3) (tCons (tVar 4) tNil))) (S (some (.int (i : Int))) (some r1) (some r2) x5 x6 x7 x8) H3 (allX C r1 r2) := fun H4 e4 Q4 q4 => ⟨r1, rfl, r2, rfl, r1, r2, rfl, fun p xs H5 e5 h5 hx => q4 p xs H5 e5 h5 hx⟩
      refine q_asgXN (exn_if (et_test (ev_op (ev_op (x := .int (i : Int)) (y := .int 2) (ev_var rfl) ev_c (rv_I (by decide))) ev_c (rv_eq rfl))) hmk hmk) fun p xs H4 e4 h4 hx4 => ?_
      show tSeq (tFor _ _ _) _ _ (S (some (.int (i : Int))) (some r1) (some r2) (some (.ref p)) x6 x7 x8) H4
      refine q_forR1 (n := 17) (ea_cons ev_c ea_nil) (by decide) (fun k σ' H' => (∃ y6 y8, σ' = S (some (.int (i : Int))) (some r1) (some r2) (some (.ref p)) y6 x7 y8) ∧ Ex H4 H') (fun H5 e5 => ⟨⟨_, _, rfl⟩, e5⟩) (fun k σ' H' hk hP => ?_) fun σ' H' hP => ?_
      · obtain ⟨⟨y6, y8, rfl⟩, e5⟩ := hP
        have hk17 : k < 17 := by omega
        obtain ⟨v, hv, hox⟩ := (hx4.ex e5).at (i := k) (C := C k) (fs := fsX r1 r2 k) (by unfold allX; rw [List.getElem?_map, List.getElem?_range hk17]; rfl)
        show tSeq (tIfS _ _ _) _ _ (S (some (.int (i : Int))) (some r1) (some r2) (some (.ref p)) (some (.int (k : Int))) x7 y8) H'
        have hit : ∀ {H6 : Hp}, Ex H' H6 → Ev (tOp (rIxL K) (tVar 5) (tVar 6)) (S (some (.int (i : Int))) (some r1) (some r2) (some (.ref p)) (some (.int (k : Int))) x7 y8) H6 v := fun e6 => ev_op (ev_var rfl) (ev_var rfl) (rv_ixL (K := K) (sq_of (e6 _ _ (e5 _ _ h4))) (atI_nat hv))
        have hcls : EvD K (tCall (spCls K C) [] E0 (tCons (tOp (rIxL K) (tVar 5) (tVar 6)) tNil)) (S (some (.int (i : Int))) (some r1) (some r2) (some (.ref p)) (some (.int (k : Int))) x7 y8) H' (.list (clsD k)) := fun H6 e6 Q6 q6 => hit e6 H6 (Ex.refl H6) _ fun H7 e7 => ⟨v, k, _, rfl, hk17, hox.ex (e6.trans e7), fun r H8 e8 hr8 => q6 r H8 (e7.trans e8) hr8⟩
        have hoth : EvD K (tLc (iRng1 (tCons (tC (.int 17)) tNil)) (gName 8) tYes (tOp rEq (tVar 8) (tVar 6)) [8]) (S (some (.int (i : Int))) (some r1) (some r2) (some (.ref p)) (some (.int (k : Int))) x7 y8) H' (.list (clsD k)) := by
          refine ed_is (ed_n (en_lc (K := K) (j := 8) (vs := [8]) (othF k) (srcS_R1 (K := K) (ea_cons ev_c ea_nil) (by decide)).src (by decide) (fun _ => rfl) (fun d v H6 e6 hm hv6 => ?_) (fun d r v H6 e6 hm hv6 hr6 => ?_) fun d r hm hr6 => ?_)) (congrArg PyData.list (oth_cls k))
          · obtain ⟨j, hj⟩ := List.getElem?_of_mem hm
            have : ∃ z : Int, d = .int z := by
              obtain ⟨z, _, rfl⟩ := List.mem_map.mp hm
              exact ⟨_, rfl⟩
            obtain ⟨z, rfl⟩ := this
            exact et_yes
          · have : ∃ z : Int, d = .int z := by
              obtain ⟨z, _, rfl⟩ := List.mem_map.mp hm
              exact ⟨_, rfl⟩
            obtain ⟨z, rfl⟩ := this
            cases dp_int hv6
            cases hr6
            exact ed_b (ev_is (ev_op (x := .int z) (y := .int (k : Int)) (ev_var rfl) (ev_var rfl) (rv_eq rfl)) (by rw [show decide (V.int z = V.int (k : Int)) = decide (z = (k : Int)) from decide_eq_decide.mpr ⟨fun h => V.int.inj h, fun h => by rw [h]⟩]))
          · have : ∃ z : Int, d = .int z := by
              obtain ⟨z, _, rfl⟩ := List.mem_map.mp hm
              exact ⟨_, rfl⟩
            obtain ⟨z, rfl⟩ := this
            cases hr6
            rfl
        refine q_when (b := false) (et_test (ev_neSame hcls hoth (cls_k hk17).1 (cls_k hk17).2)) (fun z => by cases z) fun _ H6 e6 => ?_
        show tIfS _ _ _ _ (S (some (.int (i : Int))) (some r1) (some r2) (some (.ref p)) (some (.int (k : Int))) x7 y8) H6
        have hox6 := hox.ex e6
        have hisW : ∀ {H7 : Hp}, Ex H6 H7 → Ev (tCB (rIsX K) (tCons (tOp (rIxL K) (tVar 5) (tVar 6)) (tCons (tC (.ref WE)) tNil))) (S (some (.int (i : Int))) (some r1) (some r2) (some (.ref p)) (some (.int (k : Int))) x7 y8) H7 (.bl true) := fun e7 H8 e8 Q8 q8 => hit ((e6.trans e7).trans e8) H8 (Ex.refl H8) _ fun H9 e9 => by
          obtain ⟨ad, rfl, hoo⟩ := hox6.ex ((e7.trans e8).trans e9)
          exact ⟨ad, C k, _, .ref WE, .ref WE, true, rfl, ⟨ad, rfl, hoo⟩, XA.ec k hk17, fun u r => by cases r; rfl, XA.kW k hk17, q8 H9 e9⟩
        have hisV : ∀ {H7 : Hp}, Ex H6 H7 → Ev (tCB (rIsX K) (tCons (tOp (rIxL K) (tVar 5) (tVar 6)) (tCons (tC (.ty "ValueError")) tNil))) (S (some (.int (i : Int))) (some r1) (some r2) (some (.ref p)) (some (.int (k : Int))) x7 y8) H7 (.bl true) := fun e7 H8 e8 Q8 q8 => hit ((e6.trans e7).trans e8) H8 (Ex.refl H8) _ fun H9 e9 => by
          obtain ⟨ad, rfl, hoo⟩ := hox6.ex ((e7.trans e8).trans e9)
          exact ⟨ad, C k, _, .ty "ValueError", .type "ValueError", true, rfl, ⟨ad, rfl, hoo⟩, XA.ec k hk17, fun u r => by cases r; rfl, XA.kV k hk17, q8 H9 e9⟩
        refine s_when (b := false) (et_or (a := false) (b := false) (et_not (a := true) (et_B (hisW (Ex.refl H6)))) fun _ => et_not (a := true) (et_B (hisV (Ex.refl H6)))) (fun z => by cases z) fun _ H7 e7 => ?_
        exact ⟨⟨_, _, rfl⟩, (e5.trans e6).trans e7⟩
      · obtain ⟨⟨y6, y8, rfl⟩, e5⟩ := hP
        show tSeq (tAsg _ _) _ _ (S (some (.int (i : Int))) (some r1) (some r2) (some (.ref p)) y6 x7 y8) H'
        have h5 := e5 _ _ h4
        have hx5 := hx4.ex e5
        have ha5 := dp_ex (e4.trans e5) _ hva
        have hb5 := dp_ex (e4.trans e5) _ hvb
        obtain ⟨_, _, _, _, _, _, _, _, zn1, zm1⟩ := XA.i1
        obtain ⟨_, _, _, _, _, _, _, _, zn2⟩ := XA.i2
        obtain ⟨_, _, _, _, _, _, _, _, zn4, zm4⟩ := XA.i4
        obtain ⟨_, _, _, _, _, _, _, _, zn5, zm5⟩ := XA.i5
        obtain ⟨_, _, _, _, _, _, _, _, zn6⟩ := XA.i6
        obtain ⟨_, _, _, _, _, _, _, _, zn7⟩ := XA.i7
        obtain ⟨_, _, _, _, _, _, _, _, zn8⟩ := XA.i8
        obtain ⟨_, _, _, _, _, _, _, _, zn9⟩ := XA.i9
        obtain ⟨_, _, _, _, _, _, _, _, zn13⟩ := XA.i13
        obtain ⟨_, _, _, _, _, _, _, _, zn14⟩ := XA.i14
        obtain ⟨_, _, _, _, _, _, _, _, zn15⟩ := XA.i15
        obtain ⟨_, _, _, _, _, _, _, _, zn16⟩ := XA.i16
        refine q_asgLD (ed_lst (eda_cons (ed_xa (i := 1) XA rfl h5 hx5 (by decide) rfl (by simp [fsX]) rfl zn1 ha5) (eda_cons (ed_xa (i := 1) XA rfl h5 hx5 (by decide) rfl (by simp [fsX]) rfl zm1 hb5) (eda_cons (ed_xa (i := 2) XA rfl h5 hx5 (by decide) rfl (by simp [fsX]) rfl zn2 ha5) (eda_cons (ed_xa (i := 4) XA rfl h5 hx5 (by decide) rfl (by simp [fsX]) rfl zn4 ha5) (eda_cons (ed_xa (i := 4) XA rfl h5 hx5 (by decide) rfl (by simp [fsX]) rfl zm4 hb5) (eda_cons (ed_xa (i := 5) XA rfl h5 hx5 (by decide) rfl (by simp [fsX]) rfl zn5 ha5) (eda_cons (ed_xa (i := 5) XA rfl h5 hx5 (by decide) rfl (by simp [fsX]) rfl zm5 hb5) eda_nil))))))) (by simp)) fun p6 H6 _ e6 h6 => ?_
        show tSeq (tAsg _ _) _ _ (S (some (.int (i : Int))) (some r1) (some r2) (some (.ref p)) y6 (some (.ref p6)) y8) H6
        have hp6 := e6 _ _ h5
        have hx6 := hx5.ex e6
        have ha6 := dp_ex e6 _ ha5
        have hb6 := dp_ex e6 _ hb5
        refine q_asgLD (en_cat (ev_var rfl) h6 (ed_lst (eda_cons (ed_xa (i := 6) XA rfl hp6 hx6 (by decide) rfl (by simp [fsX]) rfl zn6 ha6) (eda_cons (ed_xa (i := 7) XA rfl hp6 hx6 (by decide) rfl (by simp [fsX]) rfl zn7 ha6) (eda_cons (ed_xa (i := 8) XA rfl hp6 hx6 (by decide) rfl (by simp [fsX]) rfl zn8 ha6) (eda_cons (ed_xa (i := 9) XA rfl hp6 hx6 (by decide) rfl (by simp [fsX]) rfl zn9 ha6) (eda_cons (ed_xa (i := 13) XA rfl hp6 hx6 (by decide) rfl (by simp [fsX]) rfl zn13 ha6) (eda_cons (ed_xa (i := 14) XA rfl hp6 hx6 (by decide) rfl (by simp [fsX]) rfl zn14 ha6) eda_nil)))))) (by simp)) (by simp)) fun p7 H7 _ e7 h7 => ?_
        show tSeq (tAsg _ _) _ _ (S (some (.int (i : Int))) (some r1) (some r2) (some (.ref p)) y6 (some (.ref p7)) y8) H7
        have hp7 := e7 _ _ hp6
        have hx7 := hx6.ex e7
        have ha7 := dp_ex e7 _ ha6
        have hb7 := dp_ex e7 _ hb6
        refine q_asgLD (en_cat (ev_var rfl) h7 (ed_lst (eda_cons (ed_xa (i := 15) XA rfl hp7 hx7 (by decide) rfl (by simp [fsX]) rfl zn15 ha7) (eda_cons (ed_xa (i := 16) XA rfl hp7 hx7 (by decide) rfl (by simp [fsX]) rfl zn16 ha7) eda_nil)) (by simp)) (by simp)) fun p8 H8 _ e8 h8 => ?_
        show tIfS _ _ _ _ (S (some (.int (i : Int))) (some r1) (some r2) (some (.ref p)) y6 (some (.ref p8)) y8) H8
        have ha8 := dp_ex e8 _ ha7
        have hb8 := dp_ex e8 _ hb7
        refine s_when (b := false) (et_reprNe (K := K) (d := .list (fldD d1 d2)) (ed_var rfl h8.dp) (ed_n (ed_lst (eda_cons (ed_var rfl ha8) (eda_cons (ed_var rfl hb8) (eda_cons (ed_var rfl ha8) (eda_cons (ed_var rfl ha8) (eda_cons (ed_var rfl hb8) (eda_cons (ed_var rfl ha8) (eda_cons (ed_var rfl hb8) (eda_cons (ed_var rfl ha8) (eda_cons (ed_var rfl ha8) (eda_cons (ed_var rfl ha8) (eda_cons (ed_var rfl ha8) (eda_cons (ed_var rfl ha8) (eda_cons (ed_var rfl ha8) (eda_cons (ed_var rfl ha8) (eda_cons (ed_var rfl ha8) eda_nil))))))))))))))) (by show 15 ≤ 100000; decide))) (fld_ok m1 m2)) (fun z => by cases z) fun _ H9 e9 => ?_
        exact ⟨⟨_, _, _, _, _, _, _, rfl⟩, hD3.ex (((((e4.trans e5).trans e6).trans e7).trans e8).trans e9)⟩
    · obtain ⟨⟨x2, x3, x4, x5, x6, x7, x8, rfl⟩, hD⟩ := hP
      refine s_ret (v := .bl true) (ev_eqSame (K := K) (d := .list maxD) (ed_n (ed_lst (eda_cons (ed_i ev_c) (eda_cons (ed_i ev_c) (eda_cons (ed_i ev_c) (eda_cons (ed_i ev_c) (eda_cons (ed_i ev_c) (eda_cons (ed_i ev_c) eda_nil)))))) (by decide))) (ed_n (ed_lst (eda_cons (ed_i ev_c) (eda_cons (ed_i ev_c) (eda_cons (ed_i ev_c) (eda_cons (ed_i ev_c) (eda_cons (ed_i ev_c) (eda_cons (ed_i ev_c) eda_nil)))))) (by decide))) max_ok.1 max_ok.2) fun H3 _ => q H3

end
end WR
set_option Elab.async false
set_option linter.all false
set_option maxRecDepth 100000
set_option maxHeartbeats 4000000
namespace WR
open PySem PySem.Spec PyProof.Rows L2 Evl
/-! ### what the top has written -/
theorem all_mk {l : PySem.W.OpenLaw} {w : World} {K : PySem.W.Frag} {h : Heap} {mg : Str → Option Value} {fa : Addr} (X : K.In h) (G : h.Ns mainGlobals mg) (hfa : mg "law" = some (.ref fa))
    {f1 : Addr} {od1 an1 : Option Addr} {sl1 : Array (Option Value)} {oc1 kV1 dc1 pm1 cd1 ct1 : Value}
    (a1 : PySem.W.nsIn K mainGlobals "_law_deck" = some (some (.ref f1)))
    (l1 : K.lookup f1 = some ⟨oc1, od1, .func (PySem.W.fnOf "_law_deck" "_law_deck" (defArgs sDeck) (defBody sDeck) (defScope sDeck) .none kV1 dc1 pm1 an1 cd1 ct1), sl1⟩)
    (c1 : PySem.W.codeIn K cd1 "_law_deck" = true) (k1 : PySem.W.keepIn K (.ref f1) = true)
    {f2 : Addr} {od2 an2 : Option Addr} {sl2 : Array (Option Value)} {oc2 kV2 dc2 pm2 cd2 ct2 : Value}
    (a2 : PySem.W.nsIn K mainGlobals "_law_draw" = some (some (.ref f2)))
    (l2 : K.lookup f2 = some ⟨oc2, od2, .func (PySem.W.fnOf "_law_draw" "_law_draw" (defArgs sDraw) (defBody sDraw) (defScope sDraw) .none kV2 dc2 pm2 an2 cd2 ct2), sl2⟩)
    (c2 : PySem.W.codeIn K cd2 "_law_draw" = true) (k2 : PySem.W.keepIn K (.ref f2) = true)
    {f3 : Addr} {od3 an3 : Option Addr} {sl3 : Array (Option Value)} {oc3 kV3 dc3 pm3 cd3 ct3 : Value}
    (a3 : PySem.W.nsIn K mainGlobals "_law_one" = some (some (.ref f3)))
    (l3 : K.lookup f3 = some ⟨oc3, od3, .func (PySem.W.fnOf "_law_one" "_law_one" (defArgs sOne) (defBody sOne) (defScope sOne) .none kV3 dc3 pm3 an3 cd3 ct3), sl3⟩)
    (c3 : PySem.W.codeIn K cd3 "_law_one" = true) (k3 : PySem.W.keepIn K (.ref f3) = true)
    {f4 : Addr} {od4 an4 : Option Addr} {sl4 : Array (Option Value)} {oc4 kV4 dc4 pm4 cd4 ct4 : Value}
    (a4 : PySem.W.nsIn K mainGlobals "_law_any" = some (some (.ref f4)))
    (l4 : K.lookup f4 = some ⟨oc4, od4, .func (PySem.W.fnOf "_law_any" "_law_any" (defArgs s_law_any) (defBody s_law_any) (defScope s_law_any) .none kV4 dc4 pm4 an4 cd4 ct4), sl4⟩)
    (c4 : PySem.W.codeIn K cd4 "_law_any" = true) (k4 : PySem.W.keepIn K (.ref f4) = true)
    {f5 : Addr} {od5 an5 : Option Addr} {sl5 : Array (Option Value)} {oc5 kV5 dc5 pm5 cd5 ct5 : Value}
    (a5 : PySem.W.nsIn K mainGlobals "_law_classes" = some (some (.ref f5)))
    (l5 : K.lookup f5 = some ⟨oc5, od5, .func (PySem.W.fnOf "_law_classes" "_law_classes" (defArgs s_law_classes) (defBody s_law_classes) (defScope s_law_classes) .none kV5 dc5 pm5 an5 cd5 ct5), sl5⟩)
    (c5 : PySem.W.codeIn K cd5 "_law_classes" = true) (k5 : PySem.W.keepIn K (.ref f5) = true)
    {f6 : Addr} {od6 an6 : Option Addr} {sl6 : Array (Option Value)} {oc6 kV6 dc6 pm6 cd6 ct6 : Value}
    (a6 : PySem.W.nsIn K mainGlobals "_law_made" = some (some (.ref f6)))
    (l6 : K.lookup f6 = some ⟨oc6, od6, .func (PySem.W.fnOf "_law_made" "_law_made" (defArgs s_law_made) (defBody s_law_made) (defScope s_law_made) .none kV6 dc6 pm6 an6 cd6 ct6), sl6⟩)
    (c6 : PySem.W.codeIn K cd6 "_law_made" = true) (k6 : PySem.W.keepIn K (.ref f6) = true)
    {f7 : Addr} {od7 an7 : Option Addr} {sl7 : Array (Option Value)} {oc7 kV7 dc7 pm7 cd7 ct7 : Value}
    (a7 : PySem.W.nsIn K mainGlobals "_law_named" = some (some (.ref f7)))
    (l7 : K.lookup f7 = some ⟨oc7, od7, .func (PySem.W.fnOf "_law_named" "_law_named" (defArgs s_law_named) (defBody s_law_named) (defScope s_law_named) .none kV7 dc7 pm7 an7 cd7 ct7), sl7⟩)
    (c7 : PySem.W.codeIn K cd7 "_law_named" = true) (k7 : PySem.W.keepIn K (.ref f7) = true)
    {f8 : Addr} {od8 an8 : Option Addr} {sl8 : Array (Option Value)} {oc8 kV8 dc8 pm8 cd8 ct8 : Value}
    (a8 : PySem.W.nsIn K mainGlobals "law" = some (some (.ref f8)))
    (l8 : K.lookup f8 = some ⟨oc8, od8, .func (PySem.W.fnOf "law" "law" (defArgs sLaw) (defBody sLaw) (defScope sLaw) .none kV8 dc8 pm8 an8 cd8 ct8), sl8⟩)
    (c8 : PySem.W.codeIn K cd8 "law" = true) (k8 : PySem.W.keepIn K (.ref f8) = true)
    (z1 : PySem.W.nsIn K mainGlobals "list" = some none)
    (z2 : PySem.W.nsIn K mainGlobals "int" = some none)
    (z3 : PySem.W.nsIn K mainGlobals "abs" = some none)
    (z4 : PySem.W.nsIn K mainGlobals "len" = some none)
    (z5 : PySem.W.nsIn K mainGlobals "isinstance" = some none)
    (z6 : PySem.W.nsIn K mainGlobals "range" = some none)
    (z7 : PySem.W.nsIn K mainGlobals "repr" = some none)
    (z8 : PySem.W.nsIn K mainGlobals "ValueError" = some none)
    {t1 : Tok} (v1 : PySem.W.nsIn K mainGlobals "MAX_LEAVES" = some (some (.int 8 t1)))
    {t2 : Tok} (v2 : PySem.W.nsIn K mainGlobals "MAX_INNER" = some (some (.int 20 t2)))
    {t3 : Tok} (v3 : PySem.W.nsIn K mainGlobals "MAX_WEBS" = some (some (.int 12 t3)))
    {t4 : Tok} (v4 : PySem.W.nsIn K mainGlobals "MAX_FILLED" = some (some (.int 9 t4)))
    {t5 : Tok} (v5 : PySem.W.nsIn K mainGlobals "MAX_CHOICES" = some (some (.int 300 t5)))
    {t6 : Tok} (v6 : PySem.W.nsIn K mainGlobals "MAX_DEEDS" = some (some (.int 30 t6)))
    {WE0 : Addr} (xW : PySem.W.nsIn K mainGlobals "WebError" = some (some (.ref WE0))) (wn : PySem.W.specialIn K (.builtin "object.__class__") "__get__" = some (some (.builtin "getset_descriptor.__get__"))) (wt : PySem.W.takesIn K (.builtin "object.__class__") = some true)
    {C0 : Addr} (xa0 : PySem.W.nsIn K mainGlobals "OtherLeaves" = some (some (.ref C0)))
    (yk0 : PySem.W.keepIn K (.ref C0) = true) (ye0 : PySem.W.subIn K (.ref C0) (.type "BaseException") = some true) (yh0 : PySem.W.hasDictIn K C0 = true) (xg0 : PySem.W.findIn K (.ref C0) "__getattribute__" = some (some (.builtin "BaseException.__getattribute__"))) (xh0 : PySem.W.findIn K (.ref C0) "__getattr__" = some none) (wa0 : PySem.W.findIn K (.ref C0) "__class__" = some (some (.builtin "object.__class__"))) (wm0 : PySem.W.mroIn K C0 (.type "object") = some true)
    (ux0 : PySem.W.excIn K C0 [.type "ValueError", .type "Exception", .type "BaseException", .type "object"] "ValueError.__new__" = true)
    {C1 : Addr} (xa1 : PySem.W.nsIn K mainGlobals "NoPaper" = some (some (.ref C1)))
    (yk1 : PySem.W.keepIn K (.ref C1) = true) (ye1 : PySem.W.subIn K (.ref C1) (.type "BaseException") = some true) (yh1 : PySem.W.hasDictIn K C1 = true) (xg1 : PySem.W.findIn K (.ref C1) "__getattribute__" = some (some (.builtin "BaseException.__getattribute__"))) (xh1 : PySem.W.findIn K (.ref C1) "__getattr__" = some none) (wa1 : PySem.W.findIn K (.ref C1) "__class__" = some (some (.builtin "object.__class__"))) (wm1 : PySem.W.mroIn K C1 (.type "object") = some true)
    {fI1 : Addr} {nm1 q1 : Str} {N1 : Addr} {bs1 : List Value} {sn1 : List Str} {sub1 : List Value} {ab1 : Bool} {col1 : Option Bool} {dd1 : Option Addr} {ma1 mb1 mc1 md1 mf1 : Option Value} {odI1 anI1 : Option Addr} {slI1 : Array (Option Value)} {ocI1 kVI1 dcI1 pmI1 cdI1 ctI1 : Value}
    (xL1 : K.lookup C1 = some (PySem.excClassObj nm1 q1 C1 N1 bs1 [.ref WE0, .type "ValueError", .type "Exception", .type "BaseException", .type "object"] true sn1 sub1 ab1 col1 dd1 ma1 mb1 mc1 md1 mf1 "ValueError.__new__"))
    (xs1 : PySem.W.findIn K (.ref C1) "__setattr__" = some (some (.builtin "object.__setattr__"))) (yt1 : PySem.W.typeIn K (.ref C1) = some (.type "type")) (xi1 : PySem.W.findIn K (.ref C1) "__init__" = some (some (.ref fI1))) (xt1 : PySem.W.typeIn K (.ref fI1) = some (.type "function"))
    (xl1 : K.lookup fI1 = some ⟨ocI1, odI1, .func (PySem.W.fnOf "__init__" "NoPaper.__init__" (defArgs sI_NoPaper) (defBody sI_NoPaper) (defScope sI_NoPaper) .none kVI1 dcI1 pmI1 anI1 cdI1 ctI1), slI1⟩) (xc1 : PySem.W.codeIn K cdI1 "NoPaper.__init__" = true) (xk1 : PySem.W.keepIn K (.ref fI1) = true)
    (xn1 : PySem.W.findIn K (.ref C1) "word" = some none) (xm1 : PySem.W.findIn K (.ref C1) "number" = some none)
    {C2 : Addr} (xa2 : PySem.W.nsIn K mainGlobals "NoWay" = some (some (.ref C2)))
    (yk2 : PySem.W.keepIn K (.ref C2) = true) (ye2 : PySem.W.subIn K (.ref C2) (.type "BaseException") = some true) (yh2 : PySem.W.hasDictIn K C2 = true) (xg2 : PySem.W.findIn K (.ref C2) "__getattribute__" = some (some (.builtin "BaseException.__getattribute__"))) (xh2 : PySem.W.findIn K (.ref C2) "__getattr__" = some none) (wa2 : PySem.W.findIn K (.ref C2) "__class__" = some (some (.builtin "object.__class__"))) (wm2 : PySem.W.mroIn K C2 (.type "object") = some true)
    {fI2 : Addr} {nm2 q2 : Str} {N2 : Addr} {bs2 : List Value} {sn2 : List Str} {sub2 : List Value} {ab2 : Bool} {col2 : Option Bool} {dd2 : Option Addr} {ma2 mb2 mc2 md2 mf2 : Option Value} {odI2 anI2 : Option Addr} {slI2 : Array (Option Value)} {ocI2 kVI2 dcI2 pmI2 cdI2 ctI2 : Value}
    (xL2 : K.lookup C2 = some (PySem.excClassObj nm2 q2 C2 N2 bs2 [.ref WE0, .type "ValueError", .type "Exception", .type "BaseException", .type "object"] true sn2 sub2 ab2 col2 dd2 ma2 mb2 mc2 md2 mf2 "ValueError.__new__"))
    (xs2 : PySem.W.findIn K (.ref C2) "__setattr__" = some (some (.builtin "object.__setattr__"))) (yt2 : PySem.W.typeIn K (.ref C2) = some (.type "type")) (xi2 : PySem.W.findIn K (.ref C2) "__init__" = some (some (.ref fI2))) (xt2 : PySem.W.typeIn K (.ref fI2) = some (.type "function"))
    (xl2 : K.lookup fI2 = some ⟨ocI2, odI2, .func (PySem.W.fnOf "__init__" "NoWay.__init__" (defArgs sI_NoWay) (defBody sI_NoWay) (defScope sI_NoWay) .none kVI2 dcI2 pmI2 anI2 cdI2 ctI2), slI2⟩) (xc2 : PySem.W.codeIn K cdI2 "NoWay.__init__" = true) (xk2 : PySem.W.keepIn K (.ref fI2) = true)
    (xn2 : PySem.W.findIn K (.ref C2) "value" = some none)
    {C3 : Addr} (xa3 : PySem.W.nsIn K mainGlobals "TooMany" = some (some (.ref C3)))
    (yk3 : PySem.W.keepIn K (.ref C3) = true) (ye3 : PySem.W.subIn K (.ref C3) (.type "BaseException") = some true) (yh3 : PySem.W.hasDictIn K C3 = true) (xg3 : PySem.W.findIn K (.ref C3) "__getattribute__" = some (some (.builtin "BaseException.__getattribute__"))) (xh3 : PySem.W.findIn K (.ref C3) "__getattr__" = some none) (wa3 : PySem.W.findIn K (.ref C3) "__class__" = some (some (.builtin "object.__class__"))) (wm3 : PySem.W.mroIn K C3 (.type "object") = some true)
    (ux3 : PySem.W.excIn K C3 [.type "ValueError", .type "Exception", .type "BaseException", .type "object"] "ValueError.__new__" = true)
    {C4 : Addr} (xa4 : PySem.W.nsIn K mainGlobals "NoWeb" = some (some (.ref C4)))
    (yk4 : PySem.W.keepIn K (.ref C4) = true) (ye4 : PySem.W.subIn K (.ref C4) (.type "BaseException") = some true) (yh4 : PySem.W.hasDictIn K C4 = true) (xg4 : PySem.W.findIn K (.ref C4) "__getattribute__" = some (some (.builtin "BaseException.__getattribute__"))) (xh4 : PySem.W.findIn K (.ref C4) "__getattr__" = some none) (wa4 : PySem.W.findIn K (.ref C4) "__class__" = some (some (.builtin "object.__class__"))) (wm4 : PySem.W.mroIn K C4 (.type "object") = some true)
    {fI4 : Addr} {nm4 q4 : Str} {N4 : Addr} {bs4 : List Value} {sn4 : List Str} {sub4 : List Value} {ab4 : Bool} {col4 : Option Bool} {dd4 : Option Addr} {ma4 mb4 mc4 md4 mf4 : Option Value} {odI4 anI4 : Option Addr} {slI4 : Array (Option Value)} {ocI4 kVI4 dcI4 pmI4 cdI4 ctI4 : Value}
    (xL4 : K.lookup C4 = some (PySem.excClassObj nm4 q4 C4 N4 bs4 [.ref WE0, .type "ValueError", .type "Exception", .type "BaseException", .type "object"] true sn4 sub4 ab4 col4 dd4 ma4 mb4 mc4 md4 mf4 "ValueError.__new__"))
    (xs4 : PySem.W.findIn K (.ref C4) "__setattr__" = some (some (.builtin "object.__setattr__"))) (yt4 : PySem.W.typeIn K (.ref C4) = some (.type "type")) (xi4 : PySem.W.findIn K (.ref C4) "__init__" = some (some (.ref fI4))) (xt4 : PySem.W.typeIn K (.ref fI4) = some (.type "function"))
    (xl4 : K.lookup fI4 = some ⟨ocI4, odI4, .func (PySem.W.fnOf "__init__" "NoWeb.__init__" (defArgs sI_NoWeb) (defBody sI_NoWeb) (defScope sI_NoWeb) .none kVI4 dcI4 pmI4 anI4 cdI4 ctI4), slI4⟩) (xc4 : PySem.W.codeIn K cdI4 "NoWeb.__init__" = true) (xk4 : PySem.W.keepIn K (.ref fI4) = true)
    (xn4 : PySem.W.findIn K (.ref C4) "word" = some none) (xm4 : PySem.W.findIn K (.ref C4) "row" = some none)
    {C5 : Addr} (xa5 : PySem.W.nsIn K mainGlobals "NoLink" = some (some (.ref C5)))
    (yk5 : PySem.W.keepIn K (.ref C5) = true) (ye5 : PySem.W.subIn K (.ref C5) (.type "BaseException") = some true) (yh5 : PySem.W.hasDictIn K C5 = true) (xg5 : PySem.W.findIn K (.ref C5) "__getattribute__" = some (some (.builtin "BaseException.__getattribute__"))) (xh5 : PySem.W.findIn K (.ref C5) "__getattr__" = some none) (wa5 : PySem.W.findIn K (.ref C5) "__class__" = some (some (.builtin "object.__class__"))) (wm5 : PySem.W.mroIn K C5 (.type "object") = some true)
    {fI5 : Addr} {nm5 q5 : Str} {N5 : Addr} {bs5 : List Value} {sn5 : List Str} {sub5 : List Value} {ab5 : Bool} {col5 : Option Bool} {dd5 : Option Addr} {ma5 mb5 mc5 md5 mf5 : Option Value} {odI5 anI5 : Option Addr} {slI5 : Array (Option Value)} {ocI5 kVI5 dcI5 pmI5 cdI5 ctI5 : Value}
    (xL5 : K.lookup C5 = some (PySem.excClassObj nm5 q5 C5 N5 bs5 [.ref WE0, .type "ValueError", .type "Exception", .type "BaseException", .type "object"] true sn5 sub5 ab5 col5 dd5 ma5 mb5 mc5 md5 mf5 "ValueError.__new__"))
    (xs5 : PySem.W.findIn K (.ref C5) "__setattr__" = some (some (.builtin "object.__setattr__"))) (yt5 : PySem.W.typeIn K (.ref C5) = some (.type "type")) (xi5 : PySem.W.findIn K (.ref C5) "__init__" = some (some (.ref fI5))) (xt5 : PySem.W.typeIn K (.ref fI5) = some (.type "function"))
    (xl5 : K.lookup fI5 = some ⟨ocI5, odI5, .func (PySem.W.fnOf "__init__" "NoLink.__init__" (defArgs sI_NoLink) (defBody sI_NoLink) (defScope sI_NoLink) .none kVI5 dcI5 pmI5 anI5 cdI5 ctI5), slI5⟩) (xc5 : PySem.W.codeIn K cdI5 "NoLink.__init__" = true) (xk5 : PySem.W.keepIn K (.ref fI5) = true)
    (xn5 : PySem.W.findIn K (.ref C5) "parent" = some none) (xm5 : PySem.W.findIn K (.ref C5) "child" = some none)
    {C6 : Addr} (xa6 : PySem.W.nsIn K mainGlobals "BadGraft" = some (some (.ref C6)))
    (yk6 : PySem.W.keepIn K (.ref C6) = true) (ye6 : PySem.W.subIn K (.ref C6) (.type "BaseException") = some true) (yh6 : PySem.W.hasDictIn K C6 = true) (xg6 : PySem.W.findIn K (.ref C6) "__getattribute__" = some (some (.builtin "BaseException.__getattribute__"))) (xh6 : PySem.W.findIn K (.ref C6) "__getattr__" = some none) (wa6 : PySem.W.findIn K (.ref C6) "__class__" = some (some (.builtin "object.__class__"))) (wm6 : PySem.W.mroIn K C6 (.type "object") = some true)
    {fI6 : Addr} {nm6 q6 : Str} {N6 : Addr} {bs6 : List Value} {sn6 : List Str} {sub6 : List Value} {ab6 : Bool} {col6 : Option Bool} {dd6 : Option Addr} {ma6 mb6 mc6 md6 mf6 : Option Value} {odI6 anI6 : Option Addr} {slI6 : Array (Option Value)} {ocI6 kVI6 dcI6 pmI6 cdI6 ctI6 : Value}
    (xL6 : K.lookup C6 = some (PySem.excClassObj nm6 q6 C6 N6 bs6 [.ref WE0, .type "ValueError", .type "Exception", .type "BaseException", .type "object"] true sn6 sub6 ab6 col6 dd6 ma6 mb6 mc6 md6 mf6 "ValueError.__new__"))
    (xs6 : PySem.W.findIn K (.ref C6) "__setattr__" = some (some (.builtin "object.__setattr__"))) (yt6 : PySem.W.typeIn K (.ref C6) = some (.type "type")) (xi6 : PySem.W.findIn K (.ref C6) "__init__" = some (some (.ref fI6))) (xt6 : PySem.W.typeIn K (.ref fI6) = some (.type "function"))
    (xl6 : K.lookup fI6 = some ⟨ocI6, odI6, .func (PySem.W.fnOf "__init__" "BadGraft.__init__" (defArgs sI_BadGraft) (defBody sI_BadGraft) (defScope sI_BadGraft) .none kVI6 dcI6 pmI6 anI6 cdI6 ctI6), slI6⟩) (xc6 : PySem.W.codeIn K cdI6 "BadGraft.__init__" = true) (xk6 : PySem.W.keepIn K (.ref fI6) = true)
    (xn6 : PySem.W.findIn K (.ref C6) "word" = some none)
    {C7 : Addr} (xa7 : PySem.W.nsIn K mainGlobals "BadWeb" = some (some (.ref C7)))
    (yk7 : PySem.W.keepIn K (.ref C7) = true) (ye7 : PySem.W.subIn K (.ref C7) (.type "BaseException") = some true) (yh7 : PySem.W.hasDictIn K C7 = true) (xg7 : PySem.W.findIn K (.ref C7) "__getattribute__" = some (some (.builtin "BaseException.__getattribute__"))) (xh7 : PySem.W.findIn K (.ref C7) "__getattr__" = some none) (wa7 : PySem.W.findIn K (.ref C7) "__class__" = some (some (.builtin "object.__class__"))) (wm7 : PySem.W.mroIn K C7 (.type "object") = some true)
    {fI7 : Addr} {nm7 q7 : Str} {N7 : Addr} {bs7 : List Value} {sn7 : List Str} {sub7 : List Value} {ab7 : Bool} {col7 : Option Bool} {dd7 : Option Addr} {ma7 mb7 mc7 md7 mf7 : Option Value} {odI7 anI7 : Option Addr} {slI7 : Array (Option Value)} {ocI7 kVI7 dcI7 pmI7 cdI7 ctI7 : Value}
    (xL7 : K.lookup C7 = some (PySem.excClassObj nm7 q7 C7 N7 bs7 [.ref WE0, .type "ValueError", .type "Exception", .type "BaseException", .type "object"] true sn7 sub7 ab7 col7 dd7 ma7 mb7 mc7 md7 mf7 "ValueError.__new__"))
    (xs7 : PySem.W.findIn K (.ref C7) "__setattr__" = some (some (.builtin "object.__setattr__"))) (yt7 : PySem.W.typeIn K (.ref C7) = some (.type "type")) (xi7 : PySem.W.findIn K (.ref C7) "__init__" = some (some (.ref fI7))) (xt7 : PySem.W.typeIn K (.ref fI7) = some (.type "function"))
    (xl7 : K.lookup fI7 = some ⟨ocI7, odI7, .func (PySem.W.fnOf "__init__" "BadWeb.__init__" (defArgs sI_BadWeb) (defBody sI_BadWeb) (defScope sI_BadWeb) .none kVI7 dcI7 pmI7 anI7 cdI7 ctI7), slI7⟩) (xc7 : PySem.W.codeIn K cdI7 "BadWeb.__init__" = true) (xk7 : PySem.W.keepIn K (.ref fI7) = true)
    (xn7 : PySem.W.findIn K (.ref C7) "error" = some none)
    {C8 : Addr} (xa8 : PySem.W.nsIn K mainGlobals "BadNames" = some (some (.ref C8)))
    (yk8 : PySem.W.keepIn K (.ref C8) = true) (ye8 : PySem.W.subIn K (.ref C8) (.type "BaseException") = some true) (yh8 : PySem.W.hasDictIn K C8 = true) (xg8 : PySem.W.findIn K (.ref C8) "__getattribute__" = some (some (.builtin "BaseException.__getattribute__"))) (xh8 : PySem.W.findIn K (.ref C8) "__getattr__" = some none) (wa8 : PySem.W.findIn K (.ref C8) "__class__" = some (some (.builtin "object.__class__"))) (wm8 : PySem.W.mroIn K C8 (.type "object") = some true)
    {fI8 : Addr} {nm8 q8 : Str} {N8 : Addr} {bs8 : List Value} {sn8 : List Str} {sub8 : List Value} {ab8 : Bool} {col8 : Option Bool} {dd8 : Option Addr} {ma8 mb8 mc8 md8 mf8 : Option Value} {odI8 anI8 : Option Addr} {slI8 : Array (Option Value)} {ocI8 kVI8 dcI8 pmI8 cdI8 ctI8 : Value}
    (xL8 : K.lookup C8 = some (PySem.excClassObj nm8 q8 C8 N8 bs8 [.ref WE0, .type "ValueError", .type "Exception", .type "BaseException", .type "object"] true sn8 sub8 ab8 col8 dd8 ma8 mb8 mc8 md8 mf8 "ValueError.__new__"))
    (xs8 : PySem.W.findIn K (.ref C8) "__setattr__" = some (some (.builtin "object.__setattr__"))) (yt8 : PySem.W.typeIn K (.ref C8) = some (.type "type")) (xi8 : PySem.W.findIn K (.ref C8) "__init__" = some (some (.ref fI8))) (xt8 : PySem.W.typeIn K (.ref fI8) = some (.type "function"))
    (xl8 : K.lookup fI8 = some ⟨ocI8, odI8, .func (PySem.W.fnOf "__init__" "BadNames.__init__" (defArgs sI_BadNames) (defBody sI_BadNames) (defScope sI_BadNames) .none kVI8 dcI8 pmI8 anI8 cdI8 ctI8), slI8⟩) (xc8 : PySem.W.codeIn K cdI8 "BadNames.__init__" = true) (xk8 : PySem.W.keepIn K (.ref fI8) = true)
    (xn8 : PySem.W.findIn K (.ref C8) "names" = some none)
    {C9 : Addr} (xa9 : PySem.W.nsIn K mainGlobals "NoKind" = some (some (.ref C9)))
    (yk9 : PySem.W.keepIn K (.ref C9) = true) (ye9 : PySem.W.subIn K (.ref C9) (.type "BaseException") = some true) (yh9 : PySem.W.hasDictIn K C9 = true) (xg9 : PySem.W.findIn K (.ref C9) "__getattribute__" = some (some (.builtin "BaseException.__getattribute__"))) (xh9 : PySem.W.findIn K (.ref C9) "__getattr__" = some none) (wa9 : PySem.W.findIn K (.ref C9) "__class__" = some (some (.builtin "object.__class__"))) (wm9 : PySem.W.mroIn K C9 (.type "object") = some true)
    {fI9 : Addr} {nm9 q9 : Str} {N9 : Addr} {bs9 : List Value} {sn9 : List Str} {sub9 : List Value} {ab9 : Bool} {col9 : Option Bool} {dd9 : Option Addr} {ma9 mb9 mc9 md9 mf9 : Option Value} {odI9 anI9 : Option Addr} {slI9 : Array (Option Value)} {ocI9 kVI9 dcI9 pmI9 cdI9 ctI9 : Value}
    (xL9 : K.lookup C9 = some (PySem.excClassObj nm9 q9 C9 N9 bs9 [.ref WE0, .type "ValueError", .type "Exception", .type "BaseException", .type "object"] true sn9 sub9 ab9 col9 dd9 ma9 mb9 mc9 md9 mf9 "ValueError.__new__"))
    (xs9 : PySem.W.findIn K (.ref C9) "__setattr__" = some (some (.builtin "object.__setattr__"))) (yt9 : PySem.W.typeIn K (.ref C9) = some (.type "type")) (xi9 : PySem.W.findIn K (.ref C9) "__init__" = some (some (.ref fI9))) (xt9 : PySem.W.typeIn K (.ref fI9) = some (.type "function"))
    (xl9 : K.lookup fI9 = some ⟨ocI9, odI9, .func (PySem.W.fnOf "__init__" "NoKind.__init__" (defArgs sI_NoKind) (defBody sI_NoKind) (defScope sI_NoKind) .none kVI9 dcI9 pmI9 anI9 cdI9 ctI9), slI9⟩) (xc9 : PySem.W.codeIn K cdI9 "NoKind.__init__" = true) (xk9 : PySem.W.keepIn K (.ref fI9) = true)
    (xn9 : PySem.W.findIn K (.ref C9) "kind" = some none)
    {C10 : Addr} (xa10 : PySem.W.nsIn K mainGlobals "Full" = some (some (.ref C10)))
    (yk10 : PySem.W.keepIn K (.ref C10) = true) (ye10 : PySem.W.subIn K (.ref C10) (.type "BaseException") = some true) (yh10 : PySem.W.hasDictIn K C10 = true) (xg10 : PySem.W.findIn K (.ref C10) "__getattribute__" = some (some (.builtin "BaseException.__getattribute__"))) (xh10 : PySem.W.findIn K (.ref C10) "__getattr__" = some none) (wa10 : PySem.W.findIn K (.ref C10) "__class__" = some (some (.builtin "object.__class__"))) (wm10 : PySem.W.mroIn K C10 (.type "object") = some true)
    (ux10 : PySem.W.excIn K C10 [.type "ValueError", .type "Exception", .type "BaseException", .type "object"] "ValueError.__new__" = true)
    {C11 : Addr} (xa11 : PySem.W.nsIn K mainGlobals "NothingDone" = some (some (.ref C11)))
    (yk11 : PySem.W.keepIn K (.ref C11) = true) (ye11 : PySem.W.subIn K (.ref C11) (.type "BaseException") = some true) (yh11 : PySem.W.hasDictIn K C11 = true) (xg11 : PySem.W.findIn K (.ref C11) "__getattribute__" = some (some (.builtin "BaseException.__getattribute__"))) (xh11 : PySem.W.findIn K (.ref C11) "__getattr__" = some none) (wa11 : PySem.W.findIn K (.ref C11) "__class__" = some (some (.builtin "object.__class__"))) (wm11 : PySem.W.mroIn K C11 (.type "object") = some true)
    (ux11 : PySem.W.excIn K C11 [.type "ValueError", .type "Exception", .type "BaseException", .type "object"] "ValueError.__new__" = true)
    {C12 : Addr} (xa12 : PySem.W.nsIn K mainGlobals "NothingUndone" = some (some (.ref C12)))
    (yk12 : PySem.W.keepIn K (.ref C12) = true) (ye12 : PySem.W.subIn K (.ref C12) (.type "BaseException") = some true) (yh12 : PySem.W.hasDictIn K C12 = true) (xg12 : PySem.W.findIn K (.ref C12) "__getattribute__" = some (some (.builtin "BaseException.__getattribute__"))) (xh12 : PySem.W.findIn K (.ref C12) "__getattr__" = some none) (wa12 : PySem.W.findIn K (.ref C12) "__class__" = some (some (.builtin "object.__class__"))) (wm12 : PySem.W.mroIn K C12 (.type "object") = some true)
    (ux12 : PySem.W.excIn K C12 [.type "ValueError", .type "Exception", .type "BaseException", .type "object"] "ValueError.__new__" = true)
    {C13 : Addr} (xa13 : PySem.W.nsIn K mainGlobals "NoVersion" = some (some (.ref C13)))
    (yk13 : PySem.W.keepIn K (.ref C13) = true) (ye13 : PySem.W.subIn K (.ref C13) (.type "BaseException") = some true) (yh13 : PySem.W.hasDictIn K C13 = true) (xg13 : PySem.W.findIn K (.ref C13) "__getattribute__" = some (some (.builtin "BaseException.__getattribute__"))) (xh13 : PySem.W.findIn K (.ref C13) "__getattr__" = some none) (wa13 : PySem.W.findIn K (.ref C13) "__class__" = some (some (.builtin "object.__class__"))) (wm13 : PySem.W.mroIn K C13 (.type "object") = some true)
    {fI13 : Addr} {nm13 q13 : Str} {N13 : Addr} {bs13 : List Value} {sn13 : List Str} {sub13 : List Value} {ab13 : Bool} {col13 : Option Bool} {dd13 : Option Addr} {ma13 mb13 mc13 md13 mf13 : Option Value} {odI13 anI13 : Option Addr} {slI13 : Array (Option Value)} {ocI13 kVI13 dcI13 pmI13 cdI13 ctI13 : Value}
    (xL13 : K.lookup C13 = some (PySem.excClassObj nm13 q13 C13 N13 bs13 [.ref WE0, .type "ValueError", .type "Exception", .type "BaseException", .type "object"] true sn13 sub13 ab13 col13 dd13 ma13 mb13 mc13 md13 mf13 "ValueError.__new__"))
    (xs13 : PySem.W.findIn K (.ref C13) "__setattr__" = some (some (.builtin "object.__setattr__"))) (yt13 : PySem.W.typeIn K (.ref C13) = some (.type "type")) (xi13 : PySem.W.findIn K (.ref C13) "__init__" = some (some (.ref fI13))) (xt13 : PySem.W.typeIn K (.ref fI13) = some (.type "function"))
    (xl13 : K.lookup fI13 = some ⟨ocI13, odI13, .func (PySem.W.fnOf "__init__" "NoVersion.__init__" (defArgs sI_NoVersion) (defBody sI_NoVersion) (defScope sI_NoVersion) .none kVI13 dcI13 pmI13 anI13 cdI13 ctI13), slI13⟩) (xc13 : PySem.W.codeIn K cdI13 "NoVersion.__init__" = true) (xk13 : PySem.W.keepIn K (.ref fI13) = true)
    (xn13 : PySem.W.findIn K (.ref C13) "value" = some none)
    {C14 : Addr} (xa14 : PySem.W.nsIn K mainGlobals "NoWatch" = some (some (.ref C14)))
    (yk14 : PySem.W.keepIn K (.ref C14) = true) (ye14 : PySem.W.subIn K (.ref C14) (.type "BaseException") = some true) (yh14 : PySem.W.hasDictIn K C14 = true) (xg14 : PySem.W.findIn K (.ref C14) "__getattribute__" = some (some (.builtin "BaseException.__getattribute__"))) (xh14 : PySem.W.findIn K (.ref C14) "__getattr__" = some none) (wa14 : PySem.W.findIn K (.ref C14) "__class__" = some (some (.builtin "object.__class__"))) (wm14 : PySem.W.mroIn K C14 (.type "object") = some true)
    {fI14 : Addr} {nm14 q14 : Str} {N14 : Addr} {bs14 : List Value} {sn14 : List Str} {sub14 : List Value} {ab14 : Bool} {col14 : Option Bool} {dd14 : Option Addr} {ma14 mb14 mc14 md14 mf14 : Option Value} {odI14 anI14 : Option Addr} {slI14 : Array (Option Value)} {ocI14 kVI14 dcI14 pmI14 cdI14 ctI14 : Value}
    (xL14 : K.lookup C14 = some (PySem.excClassObj nm14 q14 C14 N14 bs14 [.ref WE0, .type "ValueError", .type "Exception", .type "BaseException", .type "object"] true sn14 sub14 ab14 col14 dd14 ma14 mb14 mc14 md14 mf14 "ValueError.__new__"))
    (xs14 : PySem.W.findIn K (.ref C14) "__setattr__" = some (some (.builtin "object.__setattr__"))) (yt14 : PySem.W.typeIn K (.ref C14) = some (.type "type")) (xi14 : PySem.W.findIn K (.ref C14) "__init__" = some (some (.ref fI14))) (xt14 : PySem.W.typeIn K (.ref fI14) = some (.type "function"))
    (xl14 : K.lookup fI14 = some ⟨ocI14, odI14, .func (PySem.W.fnOf "__init__" "NoWatch.__init__" (defArgs sI_NoWatch) (defBody sI_NoWatch) (defScope sI_NoWatch) .none kVI14 dcI14 pmI14 anI14 cdI14 ctI14), slI14⟩) (xc14 : PySem.W.codeIn K cdI14 "NoWatch.__init__" = true) (xk14 : PySem.W.keepIn K (.ref fI14) = true)
    (xn14 : PySem.W.findIn K (.ref C14) "number" = some none)
    {C15 : Addr} (xa15 : PySem.W.nsIn K mainGlobals "BadText" = some (some (.ref C15)))
    (yk15 : PySem.W.keepIn K (.ref C15) = true) (ye15 : PySem.W.subIn K (.ref C15) (.type "BaseException") = some true) (yh15 : PySem.W.hasDictIn K C15 = true) (xg15 : PySem.W.findIn K (.ref C15) "__getattribute__" = some (some (.builtin "BaseException.__getattribute__"))) (xh15 : PySem.W.findIn K (.ref C15) "__getattr__" = some none) (wa15 : PySem.W.findIn K (.ref C15) "__class__" = some (some (.builtin "object.__class__"))) (wm15 : PySem.W.mroIn K C15 (.type "object") = some true)
    {fI15 : Addr} {nm15 q15 : Str} {N15 : Addr} {bs15 : List Value} {sn15 : List Str} {sub15 : List Value} {ab15 : Bool} {col15 : Option Bool} {dd15 : Option Addr} {ma15 mb15 mc15 md15 mf15 : Option Value} {odI15 anI15 : Option Addr} {slI15 : Array (Option Value)} {ocI15 kVI15 dcI15 pmI15 cdI15 ctI15 : Value}
    (xL15 : K.lookup C15 = some (PySem.excClassObj nm15 q15 C15 N15 bs15 [.ref WE0, .type "ValueError", .type "Exception", .type "BaseException", .type "object"] true sn15 sub15 ab15 col15 dd15 ma15 mb15 mc15 md15 mf15 "ValueError.__new__"))
    (xs15 : PySem.W.findIn K (.ref C15) "__setattr__" = some (some (.builtin "object.__setattr__"))) (yt15 : PySem.W.typeIn K (.ref C15) = some (.type "type")) (xi15 : PySem.W.findIn K (.ref C15) "__init__" = some (some (.ref fI15))) (xt15 : PySem.W.typeIn K (.ref fI15) = some (.type "function"))
    (xl15 : K.lookup fI15 = some ⟨ocI15, odI15, .func (PySem.W.fnOf "__init__" "BadText.__init__" (defArgs sI_BadText) (defBody sI_BadText) (defScope sI_BadText) .none kVI15 dcI15 pmI15 anI15 cdI15 ctI15), slI15⟩) (xc15 : PySem.W.codeIn K cdI15 "BadText.__init__" = true) (xk15 : PySem.W.keepIn K (.ref fI15) = true)
    (xn15 : PySem.W.findIn K (.ref C15) "place" = some none)
    {C16 : Addr} (xa16 : PySem.W.nsIn K mainGlobals "BadName" = some (some (.ref C16)))
    (yk16 : PySem.W.keepIn K (.ref C16) = true) (ye16 : PySem.W.subIn K (.ref C16) (.type "BaseException") = some true) (yh16 : PySem.W.hasDictIn K C16 = true) (xg16 : PySem.W.findIn K (.ref C16) "__getattribute__" = some (some (.builtin "BaseException.__getattribute__"))) (xh16 : PySem.W.findIn K (.ref C16) "__getattr__" = some none) (wa16 : PySem.W.findIn K (.ref C16) "__class__" = some (some (.builtin "object.__class__"))) (wm16 : PySem.W.mroIn K C16 (.type "object") = some true)
    {fI16 : Addr} {nm16 q16 : Str} {N16 : Addr} {bs16 : List Value} {sn16 : List Str} {sub16 : List Value} {ab16 : Bool} {col16 : Option Bool} {dd16 : Option Addr} {ma16 mb16 mc16 md16 mf16 : Option Value} {odI16 anI16 : Option Addr} {slI16 : Array (Option Value)} {ocI16 kVI16 dcI16 pmI16 cdI16 ctI16 : Value}
    (xL16 : K.lookup C16 = some (PySem.excClassObj nm16 q16 C16 N16 bs16 [.ref WE0, .type "ValueError", .type "Exception", .type "BaseException", .type "object"] true sn16 sub16 ab16 col16 dd16 ma16 mb16 mc16 md16 mf16 "ValueError.__new__"))
    (xs16 : PySem.W.findIn K (.ref C16) "__setattr__" = some (some (.builtin "object.__setattr__"))) (yt16 : PySem.W.typeIn K (.ref C16) = some (.type "type")) (xi16 : PySem.W.findIn K (.ref C16) "__init__" = some (some (.ref fI16))) (xt16 : PySem.W.typeIn K (.ref fI16) = some (.type "function"))
    (xl16 : K.lookup fI16 = some ⟨ocI16, odI16, .func (PySem.W.fnOf "__init__" "BadName.__init__" (defArgs sI_BadName) (defBody sI_BadName) (defScope sI_BadName) .none kVI16 dcI16 pmI16 anI16 cdI16 ctI16), slI16⟩) (xc16 : PySem.W.codeIn K cdI16 "BadName.__init__" = true) (xk16 : PySem.W.keepIn K (.ref fI16) = true)
    (xn16 : PySem.W.findIn K (.ref C16) "number" = some none)
    (xkit : kitAll K (fun i => [C0, C1, C2, C3, C4, C5, C6, C7, C8, C9, C10, C11, C12, C13, C14, C15, C16].getD i 0) WE0 = true)
    : ∃ fd : FuncData, (∀ (s : Shared) (u : Value), BindsTo s fd ⟨[u], []⟩ [("_law_script", u)]) ∧ ∀ base : Heap, K.In base → base.Ns mainGlobals mg → RunsG l.prog w K mg base fa fd "_law_script" (spLaw K) := by
  have e := hfa.symm.trans (PySem.W.mg_of X G a8)
  cases e
  have F1 := fun_mk (st := sDeck) l1 c1 k1
  have b1 := F1.binds (ps := ["_law_script"]) fun _ _ _ _ _ _ us hl => match us, hl with | [_], _ => rfl
  have g1 := PySem.W.mg_of X G a1
  have F2 := fun_mk (st := sDraw) l2 c2 k2
  have b2 := F2.binds (ps := ["_law_deck_here", "_law_many"]) fun _ _ _ _ _ _ us hl => match us, hl with | [_, _], _ => rfl
  have g2 := PySem.W.mg_of X G a2
  have F3 := fun_mk (st := sOne) l3 c3 k3
  have b3 := F3.binds (ps := ["_law_deck_here", "_law_items"]) fun _ _ _ _ _ _ us hl => match us, hl with | [_, _], _ => rfl
  have g3 := PySem.W.mg_of X G a3
  have F4 := fun_mk (st := s_law_any) l4 c4 k4
  have b4 := F4.binds (ps := ["_law_deck_here"]) fun _ _ _ _ _ _ us hl => match us, hl with | [_], _ => rfl
  have g4 := PySem.W.mg_of X G a4
  have F5 := fun_mk (st := s_law_classes) l5 c5 k5
  have b5 := F5.binds (ps := ["_law_e"]) fun _ _ _ _ _ _ us hl => match us, hl with | [_], _ => rfl
  have g5 := PySem.W.mg_of X G a5
  have F6 := fun_mk (st := s_law_made) l6 c6 k6
  have b6 := F6.binds (ps := ["_law_a", "_law_b"]) fun _ _ _ _ _ _ us hl => match us, hl with | [_, _], _ => rfl
  have g6 := PySem.W.mg_of X G a6
  have F7 := fun_mk (st := s_law_named) l7 c7 k7
  have b7 := F7.binds (ps := ["_law_a", "_law_b"]) fun _ _ _ _ _ _ us hl => match us, hl with | [_, _], _ => rfl
  have g7 := PySem.W.mg_of X G a7
  have F8 := fun_mk (st := sLaw) l8 c8 k8
  have q_list := PySem.W.mg_none_of X G z1
  have q_int := PySem.W.mg_none_of X G z2
  have q_abs := PySem.W.mg_none_of X G z3
  have q_len := PySem.W.mg_none_of X G z4
  have q_isinstance := PySem.W.mg_none_of X G z5
  have q_range := PySem.W.mg_none_of X G z6
  have q_repr := PySem.W.mg_none_of X G z7
  have q_ValueError := PySem.W.mg_none_of X G z8
  have q_MAX_LEAVES := PySem.W.mg_of X G v1
  have q_MAX_INNER := PySem.W.mg_of X G v2
  have q_MAX_WEBS := PySem.W.mg_of X G v3
  have q_MAX_FILLED := PySem.W.mg_of X G v4
  have q_MAX_CHOICES := PySem.W.mg_of X G v5
  have q_MAX_DEEDS := PySem.W.mg_of X G v6
  refine ⟨PySem.W.fnOf "law" "law" (defArgs sLaw) (defBody sLaw) (defScope sLaw) .none kV8 dc8 pm8 an8 cd8 ct8, fun s v => .of_eq rfl, fun base _ _ => ?_⟩
  have qO1 : OexC K C1 := ⟨⟨nm1, q1, N1, bs1, _, sn1, sub1, ab1, col1, dd1, ma1, mb1, mc1, md1, mf1, xL1, by first | rfl | (simp [PySem.HandSPX.refsVE])⟩, xs1, ye1, yt1, yk1⟩
  have qF1 := fun_mk (st := sI_NoPaper) xl1 xc1 xk1
  have qO2 : OexC K C2 := ⟨⟨nm2, q2, N2, bs2, _, sn2, sub2, ab2, col2, dd2, ma2, mb2, mc2, md2, mf2, xL2, by first | rfl | (simp [PySem.HandSPX.refsVE])⟩, xs2, ye2, yt2, yk2⟩
  have qF2 := fun_mk (st := sI_NoWay) xl2 xc2 xk2
  have qO4 : OexC K C4 := ⟨⟨nm4, q4, N4, bs4, _, sn4, sub4, ab4, col4, dd4, ma4, mb4, mc4, md4, mf4, xL4, by first | rfl | (simp [PySem.HandSPX.refsVE])⟩, xs4, ye4, yt4, yk4⟩
  have qF4 := fun_mk (st := sI_NoWeb) xl4 xc4 xk4
  have qO5 : OexC K C5 := ⟨⟨nm5, q5, N5, bs5, _, sn5, sub5, ab5, col5, dd5, ma5, mb5, mc5, md5, mf5, xL5, by first | rfl | (simp [PySem.HandSPX.refsVE])⟩, xs5, ye5, yt5, yk5⟩
  have qF5 := fun_mk (st := sI_NoLink) xl5 xc5 xk5
  have qO6 : OexC K C6 := ⟨⟨nm6, q6, N6, bs6, _, sn6, sub6, ab6, col6, dd6, ma6, mb6, mc6, md6, mf6, xL6, by first | rfl | (simp [PySem.HandSPX.refsVE])⟩, xs6, ye6, yt6, yk6⟩
  have qF6 := fun_mk (st := sI_BadGraft) xl6 xc6 xk6
  have qO7 : OexC K C7 := ⟨⟨nm7, q7, N7, bs7, _, sn7, sub7, ab7, col7, dd7, ma7, mb7, mc7, md7, mf7, xL7, by first | rfl | (simp [PySem.HandSPX.refsVE])⟩, xs7, ye7, yt7, yk7⟩
  have qF7 := fun_mk (st := sI_BadWeb) xl7 xc7 xk7
  have qO8 : OexC K C8 := ⟨⟨nm8, q8, N8, bs8, _, sn8, sub8, ab8, col8, dd8, ma8, mb8, mc8, md8, mf8, xL8, by first | rfl | (simp [PySem.HandSPX.refsVE])⟩, xs8, ye8, yt8, yk8⟩
  have qF8 := fun_mk (st := sI_BadNames) xl8 xc8 xk8
  have qO9 : OexC K C9 := ⟨⟨nm9, q9, N9, bs9, _, sn9, sub9, ab9, col9, dd9, ma9, mb9, mc9, md9, mf9, xL9, by first | rfl | (simp [PySem.HandSPX.refsVE])⟩, xs9, ye9, yt9, yk9⟩
  have qF9 := fun_mk (st := sI_NoKind) xl9 xc9 xk9
  have qO13 : OexC K C13 := ⟨⟨nm13, q13, N13, bs13, _, sn13, sub13, ab13, col13, dd13, ma13, mb13, mc13, md13, mf13, xL13, by first | rfl | (simp [PySem.HandSPX.refsVE])⟩, xs13, ye13, yt13, yk13⟩
  have qF13 := fun_mk (st := sI_NoVersion) xl13 xc13 xk13
  have qO14 : OexC K C14 := ⟨⟨nm14, q14, N14, bs14, _, sn14, sub14, ab14, col14, dd14, ma14, mb14, mc14, md14, mf14, xL14, by first | rfl | (simp [PySem.HandSPX.refsVE])⟩, xs14, ye14, yt14, yk14⟩
  have qF14 := fun_mk (st := sI_NoWatch) xl14 xc14 xk14
  have qO15 : OexC K C15 := ⟨⟨nm15, q15, N15, bs15, _, sn15, sub15, ab15, col15, dd15, ma15, mb15, mc15, md15, mf15, xL15, by first | rfl | (simp [PySem.HandSPX.refsVE])⟩, xs15, ye15, yt15, yk15⟩
  have qF15 := fun_mk (st := sI_BadText) xl15 xc15 xk15
  have qO16 : OexC K C16 := ⟨⟨nm16, q16, N16, bs16, _, sn16, sub16, ab16, col16, dd16, ma16, mb16, mc16, md16, mf16, xL16, by first | rfl | (simp [PySem.HandSPX.refsVE])⟩, xs16, ye16, yt16, yk16⟩
  have qF16 := fun_mk (st := sI_BadName) xl16 xc16 xk16
  have qXA : XAll l.prog w K mg base (fun i => [C0, C1, C2, C3, C4, C5, C6, C7, C8, C9, C10, C11, C12, C13, C14, C15, C16].getD i 0) WE0 := { gW := PySem.W.mg_of X G xW, kC := (fun i h => match i, h with | 0, _ => yk0 | 1, _ => yk1 | 2, _ => yk2 | 3, _ => yk3 | 4, _ => yk4 | 5, _ => yk5 | 6, _ => yk6 | 7, _ => yk7 | 8, _ => yk8 | 9, _ => yk9 | 10, _ => yk10 | 11, _ => yk11 | 12, _ => yk12 | 13, _ => yk13 | 14, _ => yk14 | 15, _ => yk15 | 16, _ => yk16 | n + 17, h => absurd h (by omega)), ec := (fun i h => match i, h with | 0, _ => ⟨xg0, xh0, ye0, yh0, wa0, wn, wt, wm0⟩ | 1, _ => ⟨xg1, xh1, ye1, yh1, wa1, wn, wt, wm1⟩ | 2, _ => ⟨xg2, xh2, ye2, yh2, wa2, wn, wt, wm2⟩ | 3, _ => ⟨xg3, xh3, ye3, yh3, wa3, wn, wt, wm3⟩ | 4, _ => ⟨xg4, xh4, ye4, yh4, wa4, wn, wt, wm4⟩ | 5, _ => ⟨xg5, xh5, ye5, yh5, wa5, wn, wt, wm5⟩ | 6, _ => ⟨xg6, xh6, ye6, yh6, wa6, wn, wt, wm6⟩ | 7, _ => ⟨xg7, xh7, ye7, yh7, wa7, wn, wt, wm7⟩ | 8, _ => ⟨xg8, xh8, ye8, yh8, wa8, wn, wt, wm8⟩ | 9, _ => ⟨xg9, xh9, ye9, yh9, wa9, wn, wt, wm9⟩ | 10, _ => ⟨xg10, xh10, ye10, yh10, wa10, wn, wt, wm10⟩ | 11, _ => ⟨xg11, xh11, ye11, yh11, wa11, wn, wt, wm11⟩ | 12, _ => ⟨xg12, xh12, ye12, yh12, wa12, wn, wt, wm12⟩ | 13, _ => ⟨xg13, xh13, ye13, yh13, wa13, wn, wt, wm13⟩ | 14, _ => ⟨xg14, xh14, ye14, yh14, wa14, wn, wt, wm14⟩ | 15, _ => ⟨xg15, xh15, ye15, yh15, wa15, wn, wt, wm15⟩ | 16, _ => ⟨xg16, xh16, ye16, yh16, wa16, wn, wt, wm16⟩ | n + 17, h => absurd h (by omega)), kit := fun i j hi hj => kit_of xkit hi hj, kW := fun i hi => (kitw_of xkit hi).1, kV := fun i hi => (kitw_of xkit hi).2, g0 := PySem.W.mg_of X G xa0, x0 := ux0, g1 := PySem.W.mg_of X G xa1, i1 := xi_NoPaper qF1 qO1 xi1 xt1 xn1 xm1, g2 := PySem.W.mg_of X G xa2, i2 := xi_NoWay qF2 qO2 xi2 xt2 xn2, g3 := PySem.W.mg_of X G xa3, x3 := ux3, g4 := PySem.W.mg_of X G xa4, i4 := xi_NoWeb qF4 qO4 xi4 xt4 xn4 xm4, g5 := PySem.W.mg_of X G xa5, i5 := xi_NoLink qF5 qO5 xi5 xt5 xn5 xm5, g6 := PySem.W.mg_of X G xa6, i6 := xi_BadGraft qF6 qO6 xi6 xt6 xn6, g7 := PySem.W.mg_of X G xa7, i7 := xi_BadWeb qF7 qO7 xi7 xt7 xn7, g8 := PySem.W.mg_of X G xa8, i8 := xi_BadNames qF8 qO8 xi8 xt8 xn8, g9 := PySem.W.mg_of X G xa9, i9 := xi_NoKind qF9 qO9 xi9 xt9 xn9, g10 := PySem.W.mg_of X G xa10, x10 := ux10, g11 := PySem.W.mg_of X G xa11, x11 := ux11, g12 := PySem.W.mg_of X G xa12, x12 := ux12, g13 := PySem.W.mg_of X G xa13, i13 := xi_NoVersion qF13 qO13 xi13 xt13 xn13, g14 := PySem.W.mg_of X G xa14, i14 := xi_NoWatch qF14 qO14 xi14 xt14 xn14, g15 := PySem.W.mg_of X G xa15, i15 := xi_BadText qF15 qO15 xi15 xt15 xn15, g16 := PySem.W.mg_of X G xa16, i16 := xi_BadName qF16 qO16 xi16 xt16 xn16 }
  have G1 := ok_deck (P := l.prog) (w := w) (mg := mg) (base := base) F1 q_list
  have G2 := ok_draw (P := l.prog) (w := w) (mg := mg) (base := base) F2 q_int q_abs q_len
  have G3 := ok_one (P := l.prog) (w := w) (mg := mg) (base := base) F3 F2 b2 g2 q_len G2
  have G4 := ok_lany (P := l.prog) (w := w) (mg := mg) (base := base) F4 F3 b3 g3 G3
  have G5 := ok_lclasses (P := l.prog) (w := w) (mg := mg) (base := base) F5 q_isinstance qXA
  have G6 := ok_lmade (P := l.prog) (w := w) (mg := mg) (base := base) F6 qXA
  have G7 := ok_lnamed (P := l.prog) (w := w) (mg := mg) (base := base) F7 qXA
  exact runs_law F8 F1 b1 g1 F4 b4 g4 F5 b5 g5 F6 b6 g6 F7 b7 g7 q_range q_repr q_isinstance q_ValueError q_MAX_LEAVES q_MAX_INNER q_MAX_WEBS q_MAX_FILLED q_MAX_CHOICES q_MAX_DEEDS qXA G1 G4 G5 G6 G7
end WR
open PySem PySem.W PyProof.Rows
set_option maxHeartbeats 0 in
theorem PySem.Challenge.cw_wayrows_k01_errors_and_bounds_holds : PySem.Challenge.rw_wayrows_k01_errors_and_bounds.Holds := by
  w_on; o_law; k_head; (case hw => w_witness2)
  k_fill
  refine WR.walk_ofG (l := PySem.Challenge.rw_wayrows_k01_errors_and_bounds) (n := 63) (x := "_law_script") (sp := WR.spLaw) rfl (by decide) rfl (fun w h Y => PySem.W.kIn_of Y) ?F (fun _ _ a ns hl _ hS => ⟨a, ns, rfl, hS, hl, fun _ => rfl⟩)
  case F =>
    intro w mg fa h KX G hmg
    refine' WR.all_mk KX G hmg ?a1 ?l1 ?c1 ?k1 ?a2 ?l2 ?c2 ?k2 ?a3 ?l3 ?c3 ?k3 ?a4 ?l4 ?c4 ?k4 ?a5 ?l5 ?c5 ?k5 ?a6 ?l6 ?c6 ?k6 ?a7 ?l7 ?c7 ?k7 ?a8 ?l8 ?c8 ?k8 ?z1 ?z2 ?z3 ?z4 ?z5 ?z6 ?z7 ?z8 ?v1 ?v2 ?v3 ?v4 ?v5 ?v6 ?xW ?wn ?wt ?xa0 ?yk0 ?ye0 ?yh0 ?xg0 ?xh0 ?wa0 ?wm0 ?ux0 ?xa1 ?yk1 ?ye1 ?yh1 ?xg1 ?xh1 ?wa1 ?wm1 ?xL1 ?xs1 ?yt1 ?xi1 ?xt1 ?xl1 ?xc1 ?xk1 ?xn1 ?xm1 ?xa2 ?yk2 ?ye2 ?yh2 ?xg2 ?xh2 ?wa2 ?wm2 ?xL2 ?xs2 ?yt2 ?xi2 ?xt2 ?xl2 ?xc2 ?xk2 ?xn2 ?xa3 ?yk3 ?ye3 ?yh3 ?xg3 ?xh3 ?wa3 ?wm3 ?ux3 ?xa4 ?yk4 ?ye4 ?yh4 ?xg4 ?xh4 ?wa4 ?wm4 ?xL4 ?xs4 ?yt4 ?xi4 ?xt4 ?xl4 ?xc4 ?xk4 ?xn4 ?xm4 ?xa5 ?yk5 ?ye5 ?yh5 ?xg5 ?xh5 ?wa5 ?wm5 ?xL5 ?xs5 ?yt5 ?xi5 ?xt5 ?xl5 ?xc5 ?xk5 ?xn5 ?xm5 ?xa6 ?yk6 ?ye6 ?yh6 ?xg6 ?xh6 ?wa6 ?wm6 ?xL6 ?xs6 ?yt6 ?xi6 ?xt6 ?xl6 ?xc6 ?xk6 ?xn6 ?xa7 ?yk7 ?ye7 ?yh7 ?xg7 ?xh7 ?wa7 ?wm7 ?xL7 ?xs7 ?yt7 ?xi7 ?xt7 ?xl7 ?xc7 ?xk7 ?xn7 ?xa8 ?yk8 ?ye8 ?yh8 ?xg8 ?xh8 ?wa8 ?wm8 ?xL8 ?xs8 ?yt8 ?xi8 ?xt8 ?xl8 ?xc8 ?xk8 ?xn8 ?xa9 ?yk9 ?ye9 ?yh9 ?xg9 ?xh9 ?wa9 ?wm9 ?xL9 ?xs9 ?yt9 ?xi9 ?xt9 ?xl9 ?xc9 ?xk9 ?xn9 ?xa10 ?yk10 ?ye10 ?yh10 ?xg10 ?xh10 ?wa10 ?wm10 ?ux10 ?xa11 ?yk11 ?ye11 ?yh11 ?xg11 ?xh11 ?wa11 ?wm11 ?ux11 ?xa12 ?yk12 ?ye12 ?yh12 ?xg12 ?xh12 ?wa12 ?wm12 ?ux12 ?xa13 ?yk13 ?ye13 ?yh13 ?xg13 ?xh13 ?wa13 ?wm13 ?xL13 ?xs13 ?yt13 ?xi13 ?xt13 ?xl13 ?xc13 ?xk13 ?xn13 ?xa14 ?yk14 ?ye14 ?yh14 ?xg14 ?xh14 ?wa14 ?wm14 ?xL14 ?xs14 ?yt14 ?xi14 ?xt14 ?xl14 ?xc14 ?xk14 ?xn14 ?xa15 ?yk15 ?ye15 ?yh15 ?xg15 ?xh15 ?wa15 ?wm15 ?xL15 ?xs15 ?yt15 ?xi15 ?xt15 ?xl15 ?xc15 ?xk15 ?xn15 ?xa16 ?yk16 ?ye16 ?yh16 ?xg16 ?xh16 ?wa16 ?wm16 ?xL16 ?xs16 ?yt16 ?xi16 ?xt16 ?xl16 ?xc16 ?xk16 ?xn16 ?xkit
    (case a1 => k_is)
    (case l1 => k_is)
    (case c1 => k_is)
    (case k1 => k_is)
    (case a2 => k_is)
    (case l2 => k_is)
    (case c2 => k_is)
    (case k2 => k_is)
    (case a3 => k_is)
    (case l3 => k_is)
    (case c3 => k_is)
    (case k3 => k_is)
    (case a4 => k_is)
    (case l4 => k_is)
    (case c4 => k_is)
    (case k4 => k_is)
    (case a5 => k_is)
    (case l5 => k_is)
    (case c5 => k_is)
    (case k5 => k_is)
    (case a6 => k_is)
    (case l6 => k_is)
    (case c6 => k_is)
    (case k6 => k_is)
    (case a7 => k_is)
    (case l7 => k_is)
    (case c7 => k_is)
    (case k7 => k_is)
    (case a8 => k_is)
    (case l8 => k_is)
    (case c8 => k_is)
    (case k8 => k_is)
    (case z1 => k_is)
    (case z2 => k_is)
    (case z3 => k_is)
    (case z4 => k_is)
    (case z5 => k_is)
    (case z6 => k_is)
    (case z7 => k_is)
    (case z8 => k_is)
    (case v1 => k_is)
    (case v2 => k_is)
    (case v3 => k_is)
    (case v4 => k_is)
    (case v5 => k_is)
    (case v6 => k_is)
    (case xW => k_is)
    (case wn => k_is)
    (case wt => k_is)
    (case xa0 => k_is)
    (case yk0 => k_is)
    (case ye0 => k_is)
    (case yh0 => k_is)
    (case xg0 => k_is)
    (case xh0 => k_is)
    (case wa0 => k_is)
    (case wm0 => k_is)
    (case ux0 => first | kernel_rfl | k_is)
    (case xa1 => k_is)
    (case yk1 => k_is)
    (case ye1 => k_is)
    (case yh1 => k_is)
    (case xg1 => k_is)
    (case xh1 => k_is)
    (case wa1 => k_is)
    (case wm1 => k_is)
    (case xL1 => k_is)
    (case xs1 => k_is)
    (case yt1 => k_is)
    (case xi1 => k_is)
    (case xt1 => k_is)
    (case xl1 => k_is)
    (case xc1 => k_is)
    (case xk1 => k_is)
    (case xn1 => k_is)
    (case xm1 => k_is)
    (case xa2 => k_is)
    (case yk2 => k_is)
    (case ye2 => k_is)
    (case yh2 => k_is)
    (case xg2 => k_is)
    (case xh2 => k_is)
    (case wa2 => k_is)
    (case wm2 => k_is)
    (case xL2 => k_is)
    (case xs2 => k_is)
    (case yt2 => k_is)
    (case xi2 => k_is)
    (case xt2 => k_is)
    (case xl2 => k_is)
    (case xc2 => k_is)
    (case xk2 => k_is)
    (case xn2 => k_is)
    (case xa3 => k_is)
    (case yk3 => k_is)
    (case ye3 => k_is)
    (case yh3 => k_is)
    (case xg3 => k_is)
    (case xh3 => k_is)
    (case wa3 => k_is)
    (case wm3 => k_is)
    (case ux3 => first | kernel_rfl | k_is)
    (case xa4 => k_is)
    (case yk4 => k_is)
    (case ye4 => k_is)
    (case yh4 => k_is)
    (case xg4 => k_is)
    (case xh4 => k_is)
    (case wa4 => k_is)
    (case wm4 => k_is)
    (case xL4 => k_is)
    (case xs4 => k_is)
    (case yt4 => k_is)
    (case xi4 => k_is)
    (case xt4 => k_is)
    (case xl4 => k_is)
    (case xc4 => k_is)
    (case xk4 => k_is)
    (case xn4 => k_is)
    (case xm4 => k_is)
    (case xa5 => k_is)
    (case yk5 => k_is)
    (case ye5 => k_is)
    (case yh5 => k_is)
    (case xg5 => k_is)
    (case xh5 => k_is)
    (case wa5 => k_is)
    (case wm5 => k_is)
    (case xL5 => k_is)
    (case xs5 => k_is)
    (case yt5 => k_is)
    (case xi5 => k_is)
    (case xt5 => k_is)
    (case xl5 => k_is)
    (case xc5 => k_is)
    (case xk5 => k_is)
    (case xn5 => k_is)
    (case xm5 => k_is)
    (case xa6 => k_is)
    (case yk6 => k_is)
    (case ye6 => k_is)
    (case yh6 => k_is)
    (case xg6 => k_is)
    (case xh6 => k_is)
    (case wa6 => k_is)
    (case wm6 => k_is)
    (case xL6 => k_is)
    (case xs6 => k_is)
    (case yt6 => k_is)
    (case xi6 => k_is)
    (case xt6 => k_is)
    (case xl6 => k_is)
    (case xc6 => k_is)
    (case xk6 => k_is)
    (case xn6 => k_is)
    (case xa7 => k_is)
    (case yk7 => k_is)
    (case ye7 => k_is)
    (case yh7 => k_is)
    (case xg7 => k_is)
    (case xh7 => k_is)
    (case wa7 => k_is)
    (case wm7 => k_is)
    (case xL7 => k_is)
    (case xs7 => k_is)
    (case yt7 => k_is)
    (case xi7 => k_is)
    (case xt7 => k_is)
    (case xl7 => k_is)
    (case xc7 => k_is)
    (case xk7 => k_is)
    (case xn7 => k_is)
    (case xa8 => k_is)
    (case yk8 => k_is)
    (case ye8 => k_is)
    (case yh8 => k_is)
    (case xg8 => k_is)
    (case xh8 => k_is)
    (case wa8 => k_is)
    (case wm8 => k_is)
    (case xL8 => k_is)
    (case xs8 => k_is)
    (case yt8 => k_is)
    (case xi8 => k_is)
    (case xt8 => k_is)
    (case xl8 => k_is)
    (case xc8 => k_is)
    (case xk8 => k_is)
    (case xn8 => k_is)
    (case xa9 => k_is)
    (case yk9 => k_is)
    (case ye9 => k_is)
    (case yh9 => k_is)
    (case xg9 => k_is)
    (case xh9 => k_is)
    (case wa9 => k_is)
    (case wm9 => k_is)
    (case xL9 => k_is)
    (case xs9 => k_is)
    (case yt9 => k_is)
    (case xi9 => k_is)
    (case xt9 => k_is)
    (case xl9 => k_is)
    (case xc9 => k_is)
    (case xk9 => k_is)
    (case xn9 => k_is)
    (case xa10 => k_is)
    (case yk10 => k_is)
    (case ye10 => k_is)
    (case yh10 => k_is)
    (case xg10 => k_is)
    (case xh10 => k_is)
    (case wa10 => k_is)
    (case wm10 => k_is)
    (case ux10 => first | kernel_rfl | k_is)
    (case xa11 => k_is)
    (case yk11 => k_is)
    (case ye11 => k_is)
    (case yh11 => k_is)
    (case xg11 => k_is)
    (case xh11 => k_is)
    (case wa11 => k_is)
    (case wm11 => k_is)
    (case ux11 => first | kernel_rfl | k_is)
    (case xa12 => k_is)
    (case yk12 => k_is)
    (case ye12 => k_is)
    (case yh12 => k_is)
    (case xg12 => k_is)
    (case xh12 => k_is)
    (case wa12 => k_is)
    (case wm12 => k_is)
    (case ux12 => first | kernel_rfl | k_is)
    (case xa13 => k_is)
    (case yk13 => k_is)
    (case ye13 => k_is)
    (case yh13 => k_is)
    (case xg13 => k_is)
    (case xh13 => k_is)
    (case wa13 => k_is)
    (case wm13 => k_is)
    (case xL13 => k_is)
    (case xs13 => k_is)
    (case yt13 => k_is)
    (case xi13 => k_is)
    (case xt13 => k_is)
    (case xl13 => k_is)
    (case xc13 => k_is)
    (case xk13 => k_is)
    (case xn13 => k_is)
    (case xa14 => k_is)
    (case yk14 => k_is)
    (case ye14 => k_is)
    (case yh14 => k_is)
    (case xg14 => k_is)
    (case xh14 => k_is)
    (case wa14 => k_is)
    (case wm14 => k_is)
    (case xL14 => k_is)
    (case xs14 => k_is)
    (case yt14 => k_is)
    (case xi14 => k_is)
    (case xt14 => k_is)
    (case xl14 => k_is)
    (case xc14 => k_is)
    (case xk14 => k_is)
    (case xn14 => k_is)
    (case xa15 => k_is)
    (case yk15 => k_is)
    (case ye15 => k_is)
    (case yh15 => k_is)
    (case xg15 => k_is)
    (case xh15 => k_is)
    (case wa15 => k_is)
    (case wm15 => k_is)
    (case xL15 => k_is)
    (case xs15 => k_is)
    (case yt15 => k_is)
    (case xi15 => k_is)
    (case xt15 => k_is)
    (case xl15 => k_is)
    (case xc15 => k_is)
    (case xk15 => k_is)
    (case xn15 => k_is)
    (case xa16 => k_is)
    (case yk16 => k_is)
    (case ye16 => k_is)
    (case yh16 => k_is)
    (case xg16 => k_is)
    (case xh16 => k_is)
    (case wa16 => k_is)
    (case wm16 => k_is)
    (case xL16 => k_is)
    (case xs16 => k_is)
    (case yt16 => k_is)
    (case xi16 => k_is)
    (case xt16 => k_is)
    (case xl16 => k_is)
    (case xc16 => k_is)
    (case xk16 => k_is)
    (case xn16 => k_is)
    (case xkit => first | kernel_rfl | k_is)
