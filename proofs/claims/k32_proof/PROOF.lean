import PyProof.Rows.All
import Wide.All
import OpenK.AllK
import Wide.FinOn
import PyProof.EqAt
import PyProof.EqKinds
import PyProof.TupleCall
import HandS.ForExc
import HandS.Comp
import HandS.Iter
import HandS.Gcd
import HandS.Wide
import HandS.Evl
import HandS.Defaults
import HandS.ExcIs
import HandS.TupAny
import HandS.TupMul
import HandS.Walk
import HandS.Rev
import HandS.TupAny
import HandS.TupMul
import HandS.Style
import HandS.Deep
import HandS.Dict
import HandS.ForMost
import HandS.Conv
import HandS.Sort
import HandS.SortInts
import HandS.NoneIn
import KE.DatumOrd
import HandS.IsInst
import HandS.TupSets
import HandS.DictTup
import HandS.Flow
import HandS.Codes
import PyProof.ReprRoads
import PyProof.ReprLen
import PyProof.CallFns
import PyProof.Rows.RegStrFacts
import HandS.List
import KE.LtData
import KE.KDictList
import KE.GoesMore
import KE.DataMinMax
import HandS.CallLocal
import KE.KMathGC
import HandS.SortKw
import HandS.HotCalls
import HandS.ExcCtx
import HandS.Words
import PyProof.Seq
import HandS.SetFor
import HandS.SortRule
import KE.SortData
import HandS.ExcField
import HandS.Text
import HandS.Strs
import KE.KDictKeyed
import KE.KeyNested
import HandS.DictComp
import HandS.TupLen
import KE.KDictCopyH
import HandS.ListItems
import KE.KEqDict
import KE.KDictOf
import HandS.Call
import HandS.ExcOwn
import HandS.SlotsOwn
import OpenK.KMeth
import OpenK.KOps
import KE.KOpsOwn
import PySem.Challenge.RW_threadworth_k32_sums_and_their_terms
set_option Elab.async false
set_option linter.all false
set_option maxRecDepth 100000
set_option maxHeartbeats 4000000
namespace T
open PySem PySem.Spec PyProof.Rows L2
/-! ### the mathematics of worlds and numbers -/
def primes : List Int := [2, 3, 5, 7, 11, 13, 17, 19, 23, 29, 31]
def isW (p d : Int) : Bool := if p = 0 then (if -20 ≤ d then decide (d ≤ 20) else false) else (if inV (.int p) (primes.map V.int) = true then (if 0 ≤ d then decide (d < p) else false) else false)
theorem inV_ints {p : Int} : ∀ {l : List Int}, inV (.int p) (l.map V.int) = true → p ∈ l
  | [], h => by cases h
  | x :: l, h => by
    have h1 : ((eqV (.int x) (.int p)) || inV (.int p) (l.map V.int)) = true := h
    rcases (Bool.or_eq_true _ _).mp h1 with h | h
    · have : x = p := of_decide_eq_true (show decide (x = p) = true by simpa [eqV] using h)
      rw [this]
      exact List.mem_cons_self
    · exact List.mem_cons_of_mem _ (inV_ints h)
theorem isW_prime {p d : Int} (h : isW p d = true) (hp : p ≠ 0) : p ∈ primes ∧ 0 ≤ d ∧ d < p := by
  unfold isW at h
  rw [if_neg hp] at h
  by_cases e : inV (.int p) (primes.map V.int) = true
  · rw [if_pos e] at h
    by_cases e2 : 0 ≤ d
    · rw [if_pos e2] at h
      exact ⟨inV_ints e, e2, of_decide_eq_true h⟩
    · rw [if_neg e2] at h
      cases h
  · rw [if_neg e] at h
    cases h
theorem prime_pos {p : Int} (h : p ∈ primes) : 2 ≤ p ∧ p ≤ 31 := by
  simp only [primes, List.mem_cons, List.not_mem_nil, or_false] at h
  omega
theorem inv_exN : ∀ p ∈ [2, 3, 5, 7, 11, 13, 17, 19, 23, 29, 31], ∀ r, r < p → r ≠ 0 → ∃ k, k < p ∧ (k * r) % p = 1 := by decide +kernel
theorem inv_ex {p : Int} (hp : p ∈ primes) {r : Int} (h0 : 0 ≤ r) (h1 : r < p) (hr : r ≠ 0) : ∃ k : Int, 1 ≤ k ∧ k < p ∧ k * r % p = 1 := by
  obtain ⟨n, rfl⟩ := Int.eq_ofNat_of_zero_le (show 0 ≤ p by have := prime_pos hp; omega)
  obtain ⟨m, rfl⟩ := Int.eq_ofNat_of_zero_le h0
  have hn : n ∈ [2, 3, 5, 7, 11, 13, 17, 19, 23, 29, 31] := by
    simp only [primes, List.mem_cons, List.not_mem_nil, or_false] at hp ⊢
    omega
  obtain ⟨k, hk, e⟩ := inv_exN n hn m (by omega) (by omega)
  refine ⟨(k : Int), ?_, by omega, ?_⟩
  · rcases Nat.eq_zero_or_pos k with z | z
    · subst z
      rw [Nat.zero_mul, Nat.zero_mod] at e
      cases e
    · omega
  · have : ((k * m % n : Nat) : Int) = ((1 : Nat) : Int) := by rw [e]
    rw [← Int.natCast_mul, ← Int.natCast_emod, e]
    rfl
/-- lowest terms -/
def gI (a b : Int) : Int := ((Nat.gcd a.natAbs b.natAbs : Nat) : Int)
def low (a b : Int) : Int × Int := if b < 0 then ((-a) / gI a b, (-b) / gI a b) else (a / gI a b, b / gI a b)
theorem gI_pos {a b : Int} (hb : b ≠ 0) : 0 < gI a b := by
  have : 0 < Nat.gcd a.natAbs b.natAbs := Nat.gcd_pos_of_pos_right _ (by omega)
  unfold gI
  omega
theorem gI_le {a b : Int} (hb : b ≠ 0) : gI a b ≤ b.natAbs := by
  have := Nat.gcd_le_right (m := a.natAbs) (n := b.natAbs) (by omega)
  unfold gI
  omega
theorem fdiv_negg (a g : Int) (hg : 0 ≤ g) : a.fdiv (-g) = (-a) / g := by
  rw [← Int.fdiv_eq_ediv_of_nonneg _ hg, ← Int.neg_fdiv_neg (-a) g, Int.neg_neg]
/-- the number a / b -/
def bad (p b : Int) : Prop := b = 0 ∨ (0 < p ∧ b % p = 0)
def IsNum (p a b x y : Int) : Prop := (0 < p ∧ y = 1 ∧ 0 ≤ x ∧ x < p ∧ (x * b - a) % p = 0) ∨ (¬ 0 < p ∧ (x, y) = low a b)
theorem inv_solves {p a b k : Int} (hp : 0 < p) (e : k * (b % p) % p = 1) (h1 : 1 < p) : ((a * k % p) * b - a) % p = 0 := by
  have e1 : (k * b) % p = 1 := by
    rw [Int.mul_emod, Int.emod_emod_of_dvd _ (Int.dvd_refl p), ← Int.mul_emod] at e
    exact e
  have d1 : p ∣ k * b - 1 := by
    apply Int.dvd_of_emod_eq_zero
    rw [Int.sub_emod, e1, Int.emod_eq_of_lt (by omega) h1]
    simp
  have d2 : p ∣ a * k - a * k % p := Int.dvd_self_sub_emod
  apply Int.emod_eq_zero_of_dvd
  have : (a * k % p) * b - a = a * (k * b - 1) - (a * k - a * k % p) * b := by
    rw [Int.mul_sub, Int.sub_mul, Int.mul_assoc]
    omega
  rw [this]
  exact Int.dvd_sub (Int.dvd_mul_of_dvd_right d1) (Int.dvd_mul_of_dvd_left d2)
theorem num_unique {p a b x y x' y' : Int} (hp : p = 0 ∨ p ∈ primes) (hb : ¬ bad p b) (h : IsNum p a b x y) (h' : IsNum p a b x' y') : x = x' ∧ y = y' := by
  rcases h with ⟨h0, e1, l1, u1, m1⟩ | ⟨h0, e1⟩
  · rcases h' with ⟨_, e2, l2, u2, m2⟩ | ⟨h0', _⟩
    · refine ⟨?_, e1.trans e2.symm⟩
      rcases hp with rfl | hp
      · omega
      · have hp2 := prime_pos hp
        have hbp : b % p ≠ 0 := fun z => hb (.inr ⟨h0, z⟩)
        obtain ⟨k, k1, k2, ek⟩ := inv_ex hp (Int.emod_nonneg b (by omega)) (Int.emod_lt_of_pos b h0) hbp
        have e1 : (k * b) % p = 1 := by
          rw [Int.mul_emod, Int.emod_emod_of_dvd _ (Int.dvd_refl p), ← Int.mul_emod] at ek
          exact ek
        have d1 : p ∣ k * b - 1 := by
          apply Int.dvd_of_emod_eq_zero
          rw [Int.sub_emod, e1, Int.emod_eq_of_lt (show (0:Int) ≤ 1 by omega) (show (1:Int) < p by omega)]
          simp
        have d2 : p ∣ (x * b - a) - (x' * b - a) := Int.dvd_sub (Int.dvd_of_emod_eq_zero m1) (Int.dvd_of_emod_eq_zero m2)
        have d3 : p ∣ x - x' := by
          have e : x - x' = k * ((x * b - a) - (x' * b - a)) - (x - x') * (k * b - 1) := by
            have e3 : (x * b - a) - (x' * b - a) = (x - x') * b := by
              rw [Int.sub_mul]
              omega
            rw [e3, Int.mul_sub, Int.mul_one, ← Int.mul_assoc, Int.mul_comm k (x - x'), Int.mul_assoc]
            omega
          rw [e]
          exact Int.dvd_sub (Int.dvd_mul_of_dvd_right d2) (Int.dvd_mul_of_dvd_right d1)
        obtain ⟨c, ec⟩ := d3
        have hc : c = 0 := by
          rcases Int.lt_trichotomy c 0 with z | z | z
          · have : p * c ≤ p * (-1) := Int.mul_le_mul_of_nonneg_left (by omega) (by omega)
            omega
          · exact z
          · have : p * 1 ≤ p * c := Int.mul_le_mul_of_nonneg_left (by omega) (by omega)
            omega
        rw [hc, Int.mul_zero] at ec
        omega
    · exact absurd h0 h0'
  · rcases h' with ⟨h0', _⟩ | ⟨_, e2⟩
    · exact absurd h0' h0
    · have := e1.trans e2.symm
      exact ⟨congrArg Prod.fst this, congrArg Prod.snd this⟩
end T

/-! ### defs that are called where nothing is being shown (no repr is under way): what the law's own def may know -/
namespace L2
open PySem PySem.Spec PyProof.Rows
structure FnG (P : Program) (w : World) (K : PySem.W.Frag) (mg : Str → Option Value) (base : Heap) (k : Nat) (f : Addr) (fd : FuncData) (ps : List Str) (sp : Sp) : Prop where
  len : ∀ vs H Q E, sp vs H Q E → vs.length = ps.length
  run : ∀ (A : Around) (outer : List Env) (s : Shared) (H : Hp) (args : Args) (us : List Value) (vs : List V) (Q : VK) (E : XK), A.guards = some [] → Room k A → Env0 P w K mg base A outer s H →
    BindsTo s fd args (ps.zip us) → Vals vs us → sp vs H Q E → codeAny (model P w) A (.call (.ref f) args) (CR CX0 outer P w H s Q E) s
theorem CE_of {P : Program} {w : World} {K : PySem.W.Frag} {mg : Str → Option Value} {base : Heap} {N : List Str} {qual : Str} {scope : Scope} {f : Addr} {cdv : Value} {A : Around} {outer : List Env} {s s' : Shared} {H H' : Hp} {E : XK} {Q : VK} {σ' : St} {v : V} {u : Value}
    (J : Inv (cxOf CX0 P w K mg base N qual scope f cdv A outer s H E) [] σ' H' s') (rv : RelV v u) (q : Q v H') : CE outer P w H s Q u s' := ⟨v, H', J.os, J.bare, J.base, J.hok, rv, q⟩
theorem Fun.okG {P : Program} {w : World} {K : PySem.W.Frag} {mg : Str → Option Value} {base : Heap} {x qual : Str} {st : Stmt} {f : Addr} {fd : FuncData} {N ps : List Str} {k : Nat} {sp : Sp} (F : Fun K x qual st f fd) (S : FnScope N ps (defScope st))
    (len : ∀ vs H Q E, sp vs H Q E → vs.length = ps.length)
    (hbody : ∀ (cdv : Value) (A : Around) (outer : List Env) (s : Shared) (H : Hp) (vs : List V) (Q : VK) (E : XK), (A.deeper (envOfC qual (defScope st) s.heap.objs.size f cdv)).guards = some [] →
      Room k (A.deeper (envOfC qual (defScope st) s.heap.objs.size f cdv)) → sp vs H Q E →
      ∃ t, PSs (cxOf CX0 P w K mg base N qual (defScope st) f cdv A outer s H E).nox (defBody st) t ∧ t { nx := fun _ H' => Q .non H', rt := Q } (start N vs) H) : FnG P w K mg base (k + 1) f fd ps sp := by
  obtain ⟨oc, od, kV, doc, pm, an, cdv, ct, osl, rfl, lk, hcd⟩ := F.ex
  refine ⟨len, fun A outer s H args us vs Q E hgu hr e0 hb r hsp => ?_⟩
  have keep := fun b o (e : base.get? b = some o) => (e0.bs b o e).1
  have inK : K.In s.heap := e0.mod.kin.keeps keep
  refine codeAny_call_function hr.depth (inK _ _ lk) rfl S.co S.gen rfl (PySem.W.codeRec_of inK hcd) (hb _ _ _ _ ?_)
  refine wpAny_newFunctionEnv_cells S.kind (fun ⟨n, v⟩ hy => ?_) fun env he s1 xx => ?_
  · exact (S.par n (List.of_mem_zip hy).1).elim .inl fun q => .inr ⟨q, PySem.W.cellsFrom_some _ _ _ (.inl q)⟩
  · subst he
    refine ⟨(e0.mod.nolimit.keeps keep).keeps xx.toInCall.keep, codeAny_func ?_⟩
    obtain ⟨t, ht, hq⟩ := hbody cdv A outer s H vs Q E hgu (hr.deeper _) hsp
    have I := inv_start (CX := CX0) (E := E) S hr.hd e0 (len _ _ _ _ hsp) r xx
    refine wpAny_mono (ht.nox.run [] s1 _ H _ I hq) (fun fl s' hs => ?_) fun e s' hs => hs
    rcases fl with _ | _ | _ | u
    · obtain ⟨σ', H', J, q⟩ := hs
      exact CE_of (v := V.non) (u := Value.none) J rfl q
    · exact hs.elim fun _ z => z.elim fun _ z => z.2.elim
    · exact hs.elim fun _ z => z.elim fun _ z => z.2.elim
    · obtain ⟨v, σ', H', J, rv, q⟩ := hs
      exact CE_of J rv q
end L2

namespace L2
open PySem PySem.Spec PyProof.Rows
/-- the law's def, called by the claim's caller: nothing is being shown there -/
theorem goes_at {P : Program} {w : World} {K : PySem.W.Frag} {mg mb : Str → Option Value} {k : Nat} {fa a : Addr} {fd : FuncData} {x : Str} {sp : Sp} {t : Shared} {vs : List Value} {xs : List V} {H : Hp}
    (KX : K.In t.heap) (hns : t.heap.Ns mainGlobals mg) (hb : t.heap.Ns builtinsNs mb) (hbb : ∀ y : Str, y ≠ "__name__" → mb y = bootBuiltins y) (hlim : t.heap.NoLimit) (hg : t.gens = #[])
    (ha : t.heap.get? a = some { cls := .type "list", data := .seq vs.toArray }) (hr : Room k callerA)
    (F : ∀ base : Heap, K.In base → base.Ns mainGlobals mg → FnG P w K mg base k fa fd [x] sp) (hbind : ∀ (s : Shared) (u : Value), BindsTo s fd ⟨[u], []⟩ [(x, u)])
    (hO : Only H) (hsp : sp [.ref a] H (fun v _ => v = .bl true) fun _ _ _ => False) (hok : HOk P w H t.heap) (hA : ∀ b, H b ≠ none → b = a) (hK : H a ≠ none → K.lookup a = none) :
    codeAny (model P w) callerA (.call (.ref fa) ⟨[.ref a], []⟩) (fun r s' => r = .ok (.ret (.bool true)) ∧ OldK t.heap s'.heap ∧ s'.os = t.os ∧ AllBare s'.gens) t := by
  have free : ∀ {b : Addr}, (H b ≠ none → False) → H b = none := fun {b} z => by
    rcases e : H b with _ | u
    · rfl
    · exact (z (by rw [e]; exact fun q => nomatch q)).elim
  have ns : ∀ {b : Addr} {m : Str → Option Value}, t.heap.Ns b m → (hidT t.heap H).Ns b m := fun {b m} z => by
    obtain ⟨o, es, ep, e, d, r⟩ := z
    refine ⟨o, es, ep, hidT_get e (free fun z => ?_), d, r⟩
    rw [hA b z, ha] at e
    cases e
    cases d
  have inB : K.In (hidT t.heap H) := fun b o e => hidT_get (KX b o e) (free fun z => by
    have eb := hA b z
    rw [eb] at z e
    rw [hK z] at e
    cases e)
  obtain ⟨mc, l1, l2⟩ := hlim
  have env : Env0 P w K mg (hidT t.heap H) callerA [] t H := ⟨rfl, ⟨inB, ns hns, ⟨mb, ns hb, hbb⟩, ⟨mc, ns l1, l2⟩⟩, fun b o e => of_hidT e, Nat.le_of_eq (hidT_size _ _), trivial, fun b hb => (nomatch hb), hok, .of_eq hg⟩
  refine codeAny_mono ((F _ inB (ns hns)).run callerA [] t H _ [.ref a] [.ref a] _ _ rfl hr env (hbind t (.ref a)) (.cons rfl .nil) hsp) fun r s' h => ?_
  rcases r with e | fl
  · exact (show False from h).elim
  · rcases fl with _ | _ | _ | u
    · exact (show False from h).elim
    · exact (show False from h).elim
    · exact (show False from h).elim
    · obtain ⟨v, H', os, bare, un, hok', rv, q⟩ := h
      obtain rfl : v = .bl true := q
      obtain rfl : u = Value.bool true := rv
      refine ⟨rfl, OldK.of_keep fun b o e => ?_, os, bare⟩
      rcases hO b with z | ⟨ob, ys, z⟩
      · exact un.keep b o e z (fun z => nomatch z) (fun z => nomatch z)
      · have e1 := (hok b _ z).1
        rw [e] at e1
        rw [Option.some.inj e1]
        exact (hok' b _ (un.frzs b ob _ z)).1
theorem walk_ofG {l : PySem.W.OpenLaw} {n k : Nat} {q : Program} {loose : List Str} {XP : (Str → Option Value) → Heap → Prop} {YP : World → Heap → Prop} {d : DefRec} {K : Params → PySem.W.Frag} {sp : World → Sp} {x : Str}
    (hn : l.most = some n) (hn2 : n ≤ sizeLine) (hdf : d.params.defaults = []) (hr : Room k callerA) (hY : ∀ (w : World) (h : Heap), YP w h → (K w.params).In h)
    (F : ∀ (w : World) (mg : Str → Option Value) (fa : Addr) (h : Heap), (K w.params).In h → h.Ns mainGlobals mg → mg d.name = some (.ref fa) →
      ∃ fd : FuncData, (∀ (s : Shared) (u : Value), BindsTo s fd ⟨[u], []⟩ [(x, u)]) ∧ ∀ base : Heap, (K w.params).In base → base.Ns mainGlobals mg → FnG l.prog w (K w.params) mg base k fa fd [x] (sp w))
    (hsp : ∀ (w : World) (H : Hp) (a : Addr) (ns : List Int), ns.length ≤ n → SqL (K w.params) H a (ns.map V.int) → sp w [.ref a] H (fun v _ => v = .bl true) fun _ _ _ => False) :
    PySem.W.WalkO q loose XP YP l.row.toRowW d [] (fun f vs => PySem.call f vs) := by
  refine Att.attach_call hn hdf fun w s₀ t mg mb fa o pm cd doc a vs ns G Y ho hd hcd hmg hobj hints hlen hg => ?_
  have KX := hY w _ Y
  obtain ⟨fd, hb, hF⟩ := F w mg fa _ KX G.T.g hmg
  have rv : Vals (ns.map V.int) vs := vals_ints hints
  have lv := hints.length
  rcases hk : (K w.params).lookup a with _ | oa
  · refine goes_at (xs := ns.map V.int) (H := fun b => if b = a then some (.frz { cls := .type "list", data := .seq vs.toArray } (.lst (ns.map V.int))) else none) KX G.T.g G.T.b G.T.builtins G.T.nolimit hg hobj hr hF hb
      (fun b => ?_) (hsp w _ a ns hlen (.inl (.inr ⟨_, if_pos rfl⟩))) (fun b u z => ?_) (fun b z => Decidable.byContradiction fun c => z (if_neg c)) fun _ => hk
    · by_cases c : b = a
      · exact .inr ⟨_, _, if_pos c⟩
      · exact .inl (if_neg c)
    · by_cases c : b = a
      · have z' := (if_pos c).symm.trans z
        cases z'
        subst c
        exact ⟨hobj, by rw [List.length_map]; omega, vs, _, rv, hobj⟩
      · have z' := (if_neg c).symm.trans z
        cases z'
  · have e := (KX a oa hk).symm.trans hobj
    cases e
    exact goes_at (xs := ns.map V.int) (H := fun _ => none) KX G.T.g G.T.b G.T.builtins G.T.nolimit hg hobj hr hF hb (fun _ => .inl rfl)
      (hsp w _ a ns hlen (.inr ⟨_, vs.toArray, _, hk, rfl, rfl, rfl, by rw [List.size_toArray]; omega, rv⟩)) (fun b u z => nomatch z) (fun b z => (z rfl).elim) fun z => (z rfl).elim
end L2

namespace L2
open PySem PySem.Spec PyProof.Rows
/-! ### repr(data), where nothing is being shown -/
mutual
def wt : PyData → Nat
  | .none => 4
  | .bool _ => 5
  | .int _ => 1921
  | .str x => (reprText x).length
  | .list xs => wtAll xs + 3
  | .tuple xs => wtAll xs + 3
  | .dict _ => 0
def wtAll : List PyData → Nat
  | [] => 0
  | x :: xs => wt x + 2 + wtAll xs
end
mutual
theorem shown_wt : ∀ d : PyData, d.showable = true → d.hasDict = false → d.shown.length ≤ wt d
  | .none, _, _ => by simp only [PyData.shown, wt]; decide +kernel
  | .bool b, _, _ => by cases b <;> simp only [PyData.shown, wt] <;> decide +kernel
  | .int i, h, _ => by
    simp only [PyData.shown, wt]
    exact int_text_len_1921 (by simpa [PyData.showable] using h)
  | .str x, _, _ => by simp only [PyData.shown, wt]; exact Nat.le_refl _
  | .list xs, h, h2 => by
    simp only [PyData.showable] at h
    simp only [PyData.hasDict] at h2
    simp only [PyData.shown, wt]
    have h3 := shown_wtAll xs h h2
    have h4 := listText_len_le (PyData.shownAll xs)
    omega
  | .tuple xs, h, h2 => by
    simp only [PyData.showable] at h
    simp only [PyData.hasDict] at h2
    simp only [PyData.shown, wt]
    have h3 := shown_wtAll xs h h2
    have h4 := tupleText_len_le (PyData.shownAll xs)
    omega
  | .dict _, _, h2 => by simp [PyData.hasDict] at h2
theorem shown_wtAll : ∀ xs : List PyData, PyData.showableAll xs = true → PyData.hasDictAll xs = false → ((PyData.shownAll xs).map (·.length)).sum + 2 * (PyData.shownAll xs).length ≤ wtAll xs
  | [], _, _ => by simp [PyData.shownAll, wtAll]
  | x :: xs, h, h2 => by
    simp only [PyData.showableAll, Bool.and_eq_true] at h
    simp only [PyData.hasDictAll, Bool.or_eq_false_iff] at h2
    have h3 := shown_wt x h.1 h2.1
    have h4 := shown_wtAll xs h.2 h2.2
    simp only [PyData.shownAll, wtAll, List.map_cons, List.sum_cons, List.length_cons]
    omega
end
def rReprD (K : PySem.W.Frag) : List V → Hp → VK → Prop := fun xs H Q => ∃ x d, xs = [x] ∧ Dp K H x d ∧ SeqAt.shaped d = true ∧ d.showable = true ∧ wt d ≤ sizeLine ∧ Q (.str d.shown) H
theorem cr_reprD {X : Cx} (hg : X.A.guards = some []) (hu : X.A.units + 65 < cLine) : CallR X (.builtin "repr") (rReprD X.K) := by
  intro pins s σ H vs us Q I r h
  obtain ⟨x, d, rfl, hd, hs, hw, hz, q⟩ := h
  cases r with
  | cons rv rn =>
    rename_i v us'
    cases rn
    have hs' : (d.canLay0 && decide (d.depth ≤ 64)) = true := hs
    rw [Bool.and_eq_true] at hs'
    have nd := PyData.hasDict_of_canLay d hs'.1
    have dep : d.depth ≤ 64 := of_decide_eq_true hs'.2
    have sz := Nat.le_trans (shown_wt d hw nd) hz
    obtain ⟨as, rd⟩ := Dp.reads I d x v hd rv
    have ref : ∀ a : Addr, v = .ref a → wpAny (model X.prog X.w) X.A (call (.builtin "repr") [v]) (EP X pins σ Q) X.xe s := fun a e => by
      subst e
      exact repr_of_reads' rd hw (PyData.noDict_hsm nd) hg (by omega) (fun _ _ e => e) (fun h' u tk hk => ⟨.str _, H, I.kept (t' := tk) hk, ⟨u, rfl⟩, q⟩) sz
    cases hd with
    | non =>
      cases rv
      exact PySem.P.repr_of_none ⟨.str _, H, I.tok _, ⟨_, rfl⟩, by simpa only [PyData.shown] using q⟩
    | bl b =>
      cases rv
      exact PySem.P.repr_of_bool ⟨.str _, H, I.tok _, ⟨_, rfl⟩, by simpa only [PyData.shown] using q⟩
    | int i =>
      obtain ⟨t, rfl⟩ := rv
      exact PySem.P.repr_of_int (by simpa [PyData.showable] using hw) ⟨.str _, H, I.tok _, ⟨_, rfl⟩, by simpa only [PyData.shown] using q⟩
    | str y =>
      obtain ⟨t, rfl⟩ := rv
      exact PySem.P.repr_of_str ⟨.str _, H, I.tok _, ⟨_, rfl⟩, by simpa only [PyData.shown] using q⟩ (by simpa only [PyData.shown] using sz)
    | lst _ _ => exact ref _ rv
    | tup _ _ => exact ref _ rv
end L2

namespace T
/-! ### fractions -/
theorem low_pos {a : Int} {n : Nat} (hn : n ≠ 0) : low a (n : Int) = ((Rat.divInt a (n : Int)).num, ((Rat.divInt a (n : Int)).den : Int)) := by
  have e : Rat.divInt a (n : Int) = Rat.normalize a n hn := by
    show mkRat a n = _
    rw [Rat.mkRat_def, dif_neg hn]
  rw [e, Rat.normalize_eq]
  unfold low gI
  rw [if_neg (by omega), Int.natAbs_natCast]
  show (_, _) = (_, (((n / a.natAbs.gcd n : Nat)) : Int))
  rw [Int.natCast_ediv]
theorem low_rat {a b : Int} (hb : b ≠ 0) : low a b = ((Rat.divInt a b).num, ((Rat.divInt a b).den : Int)) := by
  by_cases c : 0 < b
  · obtain ⟨n, rfl⟩ := Int.eq_ofNat_of_zero_le (Int.le_of_lt c)
    exact low_pos (by omega)
  · obtain ⟨n, hn⟩ := Int.eq_ofNat_of_zero_le (show 0 ≤ -b by omega)
    have e : Rat.divInt a b = Rat.divInt (-a) (n : Int) := (Rat.divInt_eq_divInt_iff hb (by omega)).mpr (by rw [← hn, Int.mul_neg, Int.neg_mul])
    rw [e, ← low_pos (by omega), ← hn]
    unfold low gI
    rw [if_pos (by omega), if_neg (by omega), Int.natAbs_neg, Int.natAbs_neg]
theorem low_congr {a b a' b' : Int} (hb : b ≠ 0) (hb' : b' ≠ 0) (h : a * b' = a' * b) : low a b = low a' b' := by
  rw [low_rat hb, low_rat hb', (Rat.divInt_eq_divInt_iff hb hb').mpr h]
theorem low_q {a b u v : Int} (hb : b ≠ 0) (h : (u, v) = low a b) : Rat.divInt u v = Rat.divInt a b ∧ 0 < v := by
  rw [low_rat hb] at h
  have e1 : u = (Rat.divInt a b).num := congrArg Prod.fst h
  have e2 : v = ((Rat.divInt a b).den : Int) := congrArg Prod.snd h
  rw [e1, e2]
  exact ⟨Rat.num_divInt_den _, by have := (Rat.divInt a b).den_pos; omega⟩
theorem low_cross {a b u v : Int} (hb : b ≠ 0) (h : (u, v) = low a b) : u * b = a * v ∧ 0 < v := by
  obtain ⟨h1, h2⟩ := low_q hb h
  exact ⟨(Rat.divInt_eq_divInt_iff (by omega) hb).mp h1, h2⟩
/-- a number times a number: the parts may be reduced ahead or behind -/
theorem num_step {p A B u v a b u' v' : Int} (hp : p = 0 ∨ p ∈ primes) (hB : p = 0 → B ≠ 0) (hb0 : p = 0 → b ≠ 0) (hb1 : p ≠ 0 → b = 1) (hB1 : p ≠ 0 → B = 1) (h : IsNum p A B u v) (h' : IsNum p (u * a) (v * b) u' v') : IsNum p (A * a) (B * b) u' v' := by
  by_cases c : p = 0
  · obtain ⟨_, e⟩ := h.resolve_left (fun z => by omega)
    obtain ⟨_, e'⟩ := h'.resolve_left (fun z => by omega)
    obtain ⟨x1, x2⟩ := low_cross (hB c) e
    refine .inr ⟨by omega, e'.trans (low_congr (Int.mul_ne_zero (by omega) (hb0 c)) (Int.mul_ne_zero (hB c) (hb0 c)) ?_)⟩
    calc u * a * (B * b) = u * B * (a * b) := by rw [Int.mul_assoc, Int.mul_assoc]; congr 1; rw [← Int.mul_assoc, ← Int.mul_assoc, Int.mul_comm a B]
      _ = A * v * (a * b) := by rw [x1]
      _ = A * a * (v * b) := by rw [Int.mul_assoc, Int.mul_assoc]; congr 1; rw [← Int.mul_assoc, ← Int.mul_assoc, Int.mul_comm v a]
  · have hp2 := prime_pos (hp.resolve_left c)
    obtain ⟨h0, e1, l1, u1, m1⟩ := h.resolve_right (fun z => by omega)
    obtain ⟨_, e2, l2, u2, m2⟩ := h'.resolve_right (fun z => by omega)
    refine .inl ⟨h0, e2, l2, u2, ?_⟩
    rw [hB1 c, hb1 c]
    rw [hB1 c, Int.mul_one] at m1
    rw [hb1 c, e1] at m2
    have d1 := Int.dvd_of_emod_eq_zero m1
    have d2 := Int.dvd_of_emod_eq_zero m2
    apply Int.emod_eq_zero_of_dvd
    have e : u' * (1 * 1) - A * a = (u' * (1 * 1) - u * a) + (u - A) * a := by
      rw [Int.sub_mul]
      omega
    rw [e]
    exact Int.dvd_add d2 (Int.dvd_mul_of_dvd_left d1)
theorem low_small {a b u v : Int} (h : (u, v) = low a b) : u.natAbs ≤ a.natAbs ∧ v.natAbs ≤ b.natAbs := by
  have e1 := congrArg Prod.fst h
  have e2 := congrArg Prod.snd h
  unfold low at e1 e2
  by_cases c : b < 0
  · rw [if_pos c] at e1 e2
    have f1 : u = (-a) / gI a b := e1
    have f2 : v = (-b) / gI a b := e2
    have g1 := Int.natAbs_ediv_le_natAbs (-a) (gI a b)
    have g2 := Int.natAbs_ediv_le_natAbs (-b) (gI a b)
    rw [f1, f2]
    omega
  · rw [if_neg c] at e1 e2
    have f1 : u = a / gI a b := e1
    have f2 : v = b / gI a b := e2
    have g1 := Int.natAbs_ediv_le_natAbs a (gI a b)
    have g2 := Int.natAbs_ediv_le_natAbs b (gI a b)
    rw [f1, f2]
    omega
theorem num_small {p a b u v : Int} (hp : p = 0 ∨ p ∈ primes) (h : IsNum p a b u v) (ha : a.natAbs < 2 ^ 199) (hb : b.natAbs < 2 ^ 199) : u.natAbs < 2 ^ 200 ∧ v.natAbs < 2 ^ 200 := by
  rcases h with ⟨h0, rfl, h1, h2, _⟩ | ⟨_, h⟩
  · have := prime_pos (hp.resolve_left (by omega))
    omega
  · have := low_small h
    omega
theorem isW_cases {p d : Int} (hw : isW p d = true) : (p = 0 ∨ p ∈ primes) ∧ d.natAbs ≤ 31 := by
  by_cases c : p = 0
  · refine ⟨.inl c, ?_⟩
    unfold isW at hw
    rw [if_pos c] at hw
    by_cases h1 : -20 ≤ d
    · rw [if_pos h1] at hw
      have := of_decide_eq_true hw
      omega
    · rw [if_neg h1] at hw
      cases hw
  · obtain ⟨h1, h2, h3⟩ := isW_prime hw c
    have := prime_pos h1
    exact ⟨.inr h1, by omega⟩
end T

namespace T
open PySem PySem.Spec PyProof.Rows L2
/-! ### lists of integers as polynomials -/
def co (l : List Int) (k : Nat) : Int := l.getD k 0
theorem co_ge {l : List Int} {k : Nat} (h : l.length ≤ k) : co l k = 0 := by
  unfold co
  rw [List.getD_eq_getElem?_getD, List.getElem?_eq_none h]
  rfl
theorem co_get {l : List Int} {k : Nat} (h : k < l.length) : l[k]? = some (co l k) := by
  unfold co
  rw [List.getD_eq_getElem?_getD, List.getElem?_eq_getElem h]
  rfl
theorem co_mem {l : List Int} {k : Nat} (h : k < l.length) : co l k ∈ l := by
  have e := co_get h
  exact List.mem_of_getElem? e
theorem at_co {l : List Int} {k : Nat} (h : k < l.length) : atI (l.map V.int) (k : Int) = some (.int (co l k)) := atI_nat (by rw [List.getElem?_map, co_get h]; rfl)
theorem at_end {l : List Int} (h : l ≠ []) : atI (l.map V.int) (-1) = some (.int (co l (l.length - 1))) := by
  have hl : 0 < l.length := List.length_pos_iff.mpr h
  have e : l.map V.int = (l.take (l.length - 1)).map V.int ++ [V.int (co l (l.length - 1))] := by
    have e1 : l = l.take (l.length - 1) ++ [co l (l.length - 1)] := by
      have := List.take_succ (l := l) (i := l.length - 1)
      rw [show l.length - 1 + 1 = l.length by omega, List.take_length, co_get (by omega)] at this
      exact this
    conv => lhs; rw [e1]
    rw [List.map_append]
    rfl
  rw [e]
  exact atI_last _ _
/-- no 0 at the end -/
def Pol (l : List Int) : Prop := l = [] ∨ co l (l.length - 1) ≠ 0
theorem pol_len {l m : List Int} (hm : Pol m) (h : ∀ k, co l k = co m k) : m.length ≤ l.length := by
  rcases hm with rfl | hm
  · exact Nat.zero_le _
  · rcases Nat.lt_or_ge l.length m.length with c | c
    · rw [← h, co_ge (by omega)] at hm
      exact absurd rfl hm
    · exact c
theorem pol_ext {l m : List Int} (hl : Pol l) (hm : Pol m) (h : ∀ k, co l k = co m k) : l = m := by
  have h1 := pol_len hm h
  have h2 := pol_len hl (fun k => (h k).symm)
  refine List.ext_getElem? fun k => ?_
  rcases Nat.lt_or_ge k l.length with c | c
  · rw [co_get c, co_get (by omega), h]
  · rw [List.getElem?_eq_none c, List.getElem?_eq_none (by omega)]
theorem co_take {l : List Int} {s k : Nat} (h : ∀ i, s ≤ i → co l i = 0) : co (l.take s) k = co l k := by
  rcases Nat.lt_or_ge k s with c | c
  · unfold co
    rw [List.getD_eq_getElem?_getD, List.getD_eq_getElem?_getD, List.getElem?_take_of_lt c]
  · rw [h k c, co_ge (by rw [List.length_take]; omega)]
theorem pol_take {l : List Int} {s : Nat} (hs : s ≤ l.length) (h : s = 0 ∨ co l (s - 1) ≠ 0) (hz : ∀ i, s ≤ i → co l i = 0) : Pol (l.take s) := by
  rcases h with rfl | h
  · exact .inl rfl
  · by_cases c : s = 0
    · rw [c]
      exact .inl rfl
    · refine .inr ?_
      rw [List.length_take, Nat.min_eq_left hs, co_take hz]
      exact h
theorem co_map {f : Int → Int} (h0 : f 0 = 0) (l : List Int) (k : Nat) : co (l.map f) k = f (co l k) := by
  rcases Nat.lt_or_ge k l.length with c | c
  · have := co_get c
    unfold co
    rw [List.getD_eq_getElem?_getD, List.getElem?_map, List.getD_eq_getElem?_getD, this]
    rfl
  · rw [co_ge (by rw [List.length_map]; omega), co_ge c, h0]
theorem co_set {l : List Int} {i : Nat} {v : Int} (k : Nat) (h : i < l.length) : co (l.set i v) k = if k = i then v else co l k := by
  unfold co
  rw [List.getD_eq_getElem?_getD, List.getElem?_set]
  by_cases c : i = k
  · rw [if_pos c, if_pos c.symm, if_pos (by omega)]
    rfl
  · rw [if_neg c, if_neg (fun z => c z.symm), List.getD_eq_getElem?_getD]
theorem co_zeros (n k : Nat) : co (List.replicate n 0) k = 0 := by
  unfold co
  rw [List.getD_eq_getElem?_getD, List.getElem?_replicate]
  split <;> rfl
theorem map_set (l : List Int) (i : Nat) (v : Int) : (l.map V.int).set i (V.int v) = (l.set i v).map V.int := List.map_set.symm
/-! the value -/
def ev (x : Int) : List Int → Int
  | [] => 0
  | a :: r => a + x * ev x r
theorem ev_append (x : Int) (l : List Int) (a : Int) : ev x (l ++ [a]) = ev x l + x ^ l.length * a := by
  induction l with
  | nil => show a + x * 0 = 0 + x ^ 0 * a; rw [Int.pow_zero]; grind
  | cons b r ih =>
    show b + x * ev x (r ++ [a]) = b + x * ev x r + x ^ (r.length + 1) * a
    rw [ih, Int.pow_succ]
    grind
theorem ev_take (x : Int) {l : List Int} {i : Nat} (h : i < l.length) : ev x (l.take (i + 1)) = ev x (l.take i) + co l i * x ^ i := by
  have e : l.take (i + 1) = l.take i ++ [co l i] := by rw [List.take_succ, co_get h]; rfl
  rw [e, ev_append, List.length_take, Nat.min_eq_left (by omega), Int.mul_comm]
theorem ev_drop (x : Int) {l : List Int} {i : Nat} (h : i < l.length) : ev x (l.drop i) = co l i + x * ev x (l.drop (i + 1)) := by
  rw [List.drop_eq_getElem_cons h]
  have := co_get h
  rw [List.getElem?_eq_getElem h] at this
  rw [Option.some.inj this]
  rfl
/-! the product: what is there behind i rows, and j entries of the next -/
def row (one other : List Int) (i k : Nat) : Int := if i ≤ k then co one i * co other (k - i) else 0
def conv (one other : List Int) : Nat → Nat → Int
  | 0, _ => 0
  | i + 1, k => conv one other i k + row one other i k
theorem conv_more (one other : List Int) (k : Nat) : ∀ i, one.length ≤ i → conv one other i k = conv one other one.length k
  | 0, h => by rw [show one.length = 0 by omega]
  | i + 1, h => by
    by_cases c : one.length = i + 1
    · rw [c]
    · show conv one other i k + row one other i k = _
      rw [conv_more one other k i (by omega)]
      unfold row
      rw [co_ge (l := one) (by omega)]
      split <;> simp
theorem conv_top (one other : List Int) {k : Nat} : ∀ i, i ≤ one.length → i + other.length ≤ k + 1 → conv one other i k = 0
  | 0, _, _ => rfl
  | i + 1, h, hk => by
    show conv one other i k + row one other i k = 0
    rw [conv_top one other i (by omega) (by omega)]
    unfold row
    rw [if_pos (by omega), co_ge (l := other) (by omega)]
    simp
theorem conv_zero (one : List Int) (k : Nat) : ∀ i, conv one [] i k = 0
  | 0 => rfl
  | i + 1 => by
    show conv one [] i k + row one [] i k = 0
    rw [conv_zero one k i]
    unfold row
    rw [show co [] (k - i) = 0 from co_ge (Nat.zero_le _)]
    split <;> simp
theorem rep0 : ∀ n : Nat, (List.replicate n [V.int 0]).flatten = (List.replicate n (0 : Int)).map V.int
  | 0 => rfl
  | n + 1 => by
    rw [List.replicate_succ, List.flatten_cons, rep0 n, List.replicate_succ, List.map_cons]
    rfl
theorem ixN_nat {n j : Nat} (h : j < n) : ixN n (j : Int) = some j := by
  unfold ixN
  rw [if_pos (by omega), if_pos (by omega)]
  rfl
end T

/-! ### tuple * n for n = 0 and n = 1 -/
namespace L2
open PySem PySem.Spec PyProof.Rows
theorem tuple_mulX (l : Addr) (items : Array Value) (n : Nat) (dd : Option Addr) (sl : Array (Option Value)) (x : Int) (u : Tok) (c0 : (decide (x < -(2 ^ 63)) || decide (x ≥ 2 ^ 63)) = false) (c1 : (items.isEmpty || x == 1) = true) :
    Meets (Builtin.«tuple.__mul__» ⟨[.ref l, .int x u], []⟩) (fun _ R s => s.heap.get? l = some { cls := .type "tuple", dict := dd, data := .seq items n, slots := sl } ∧ R (.ok (.ret (Value.ref l))) s) :=
  .of_wp fun prog w A R s h => by
    obtain ⟨hp, g, d, tk, os⟩ := s
    obtain ⟨hl, h⟩ := h
    have f1 := AutoSeq1.idx_int
    wp_walk using wpAny_loadPart' hl
    repeat (first
      | (refine wpAny_ite_false (decide_eq_false (by rw [c0]; exact Bool.false_ne_true)) ?_; wp_walk using wpAny_loadPart' hl)
      | (refine wpAny_ite_true (decide_eq_true c1) ?_; wp_walk using wpAny_loadPart' hl))
    exact ⟨_, rfl, h⟩
theorem tuple_mulZ (l : Addr) (items : Array Value) (n : Nat) (dd : Option Addr) (sl : Array (Option Value)) (x : Int) (u : Tok) (c0 : (decide (x < -(2 ^ 63)) || decide (x ≥ 2 ^ 63)) = false) (c1 : (items.isEmpty || x == 1) = false) (c2 : (decide (x ≤ 0) || items.isEmpty) = true) :
    Meets (Builtin.«tuple.__mul__» ⟨[.ref l, .int x u], []⟩) (fun _ R s => s.heap.get? l = some { cls := .type "tuple", dict := dd, data := .seq items n, slots := sl } ∧
      R (.ok (.ret (Value.ref s.heap.objs.size))) { s with heap := s.heap.push { cls := Value.type "tuple", data := Data.seq #[] }, toks := s.toks }) :=
  .of_wp fun prog w A R s h => by
    obtain ⟨hp, g, d, tk, os⟩ := s
    obtain ⟨hl, h⟩ := h
    have f1 := AutoSeq1.idx_int
    wp_walk using wpAny_loadPart' hl
    repeat (first
      | (refine wpAny_ite_false (decide_eq_false (by rw [c0]; exact Bool.false_ne_true)) ?_; wp_walk using wpAny_loadPart' hl)
      | (refine wpAny_ite_false (decide_eq_false (by rw [c1]; exact Bool.false_ne_true)) ?_; wp_walk using wpAny_loadPart' hl)
      | (refine wpAny_ite_true (decide_eq_true c2) ?_; wp_walk using wpAny_loadPart' hl))
    exact ⟨_, rfl, h⟩
def rRepA (K : PySem.W.Frag) : R2 := fun x y H Q => ∃ l k xs, x = .ref l ∧ y = .int k ∧ SqT K H l xs ∧ xs ≠ [] ∧ 0 ≤ k ∧ k ≤ 1000 ∧ xs.length ≤ 1000 ∧ (k = 1 → Q (.ref l) H) ∧ (k ≠ 1 → ∀ p, H p = none → Q (.ref p) (upd H p (.tup (List.replicate k.toNat xs).flatten)))
section
variable {X : Cx}
theorem op_repA : OpR X (binaryOp .Mult) (rRepA X.K) := by
  intro pins s σ H x y v u Q I rx ry h
  obtain ⟨l, k, xs, rfl, rfl, hT, hne, h1, h2, hz, q1, q⟩ := h
  by_cases big : 2 ≤ k
  · exact op_repT pins s σ H _ _ v u Q I rx ry ⟨l, k, xs, rfl, rfl, hT, hne, big, h2, hz, q (by omega)⟩
  cases rx
  obtain ⟨t, rfl⟩ := ry
  obtain ⟨its, r, ⟨⟨cls, dd, data, sl⟩, ho, hc, n, hd⟩, hs⟩ := I.tuple hT
  simp only at hc hd
  subst hc hd
  have hle : its.length = xs.length := r.length.symm
  have hn : its ≠ [] := fun e => hne (by
    rw [e] at hle
    exact List.eq_nil_of_length_eq_zero hle.symm)
  have hi : its.toArray.isEmpty = false := by
    cases its with
    | nil => exact absurd rfl hn
    | cons a b => rfl
  have c0 : (decide (k < -(2 ^ 63)) || decide (k ≥ 2 ^ 63)) = false := by
    rw [decide_eq_false (by omega), decide_eq_false (by omega)] <;> rfl
  by_cases one : k = 1
  · have c1 : (its.toArray.isEmpty || k == 1) = true := by
      rw [hi, Bool.false_or]
      exact beq_iff_eq.mpr one
    exact wpAny_binaryOp_repeat_ref (T := "tuple") (U := "int") (by decide) ⟨_, ho, rfl⟩ (fun s' => typeIs_int s' k t) noFill_tuple_mul F.fills_int_mul F.slot_int_rmul repeat_tuple F.slot_int_index.lookup
      (call_meets F.slot_int_rmul (typeIs_int s k t) F.entry_int_rmul (F.args_int_rmul_2 _ _) (int_rmul_tuple k t l its.toArray n dd sl)
        ⟨ho, rfl, ⟨_, ho, rfl⟩, call_meets F.slot_tuple_mul ⟨_, ho, rfl⟩ F.entry_tuple_mul (F.args_tuple_mul_2 _ _) (tuple_mulX l its.toArray n dd sl k t c0 c1) ⟨ho, ⟨.ref l, H, I, rfl, q1 one⟩⟩⟩)
  · have zero : k = 0 := by omega
    have c1 : (its.toArray.isEmpty || k == 1) = false := by
      rw [hi, Bool.false_or]
      exact beq_eq_false_iff_ne.mpr one
    have c2 : (decide (k ≤ 0) || its.toArray.isEmpty) = true := by
      rw [hi, Bool.or_false]
      exact decide_eq_true (by omega)
    refine wpAny_binaryOp_repeat_ref (T := "tuple") (U := "int") (by decide) ⟨_, ho, rfl⟩ (fun s' => typeIs_int s' k t) noFill_tuple_mul F.fills_int_mul F.slot_int_rmul repeat_tuple F.slot_int_index.lookup
      (call_meets F.slot_int_rmul (typeIs_int s k t) F.entry_int_rmul (F.args_int_rmul_2 _ _) (int_rmul_tuple k t l its.toArray n dd sl)
        ⟨ho, rfl, ⟨_, ho, rfl⟩, call_meets F.slot_tuple_mul ⟨_, ho, rfl⟩ F.entry_tuple_mul (F.args_tuple_mul_2 _ _) (tuple_mulZ l its.toArray n dd sl k t c0 c1 c2) ⟨ho, ?_⟩⟩)
    refine ⟨.ref s.heap.objs.size, _, I.laid (t' := s.toks) (o := .tup (List.replicate k.toNat xs).flatten) (fun b ob q => Heap.get?_push_of_some _ q) (Nat.le_refl _) ?_, rfl, q one _ (I.hok.fresh (Nat.le_refl _))⟩
    rw [zero]
    exact ⟨Nat.zero_le _, [], .nil, IsTup.new _ _⟩
end
end L2

/-! ### sorted(tuple of integers), x in tuple of tuples -/
namespace SrtO
open PySem PyProof.Rows Srt
section
variable {prog : Program} {w : World} {A : Around} {E : Value → Shared → Prop} {s : Shared}
theorem collect_tup {l : Addr} {vs : List Value} {Q : List Value → Shared → Prop} (hl : s.heap.IsTuple l vs.toArray)
    (h : Q vs { s with heap := (s.heap.push (seqObj "list" #[] 0)).update s.heap.objs.size (Obj.mapSeq (· ++ vs.toArray)) }) (hsz : vs.length ≤ sizeLine) :
    wpAny (model prog w) A (collect (.ref l)) Q E s := by
  obtain ⟨o, ho, hc, n, hd⟩ := id hl
  unfold collect
  refine wpAny_bind (wpAny_runValue (codeAny_builtin entry_proto_collect' ?_))
  show wpAny _ _ (do again (.builtin "list.__iadd__" ⟨[← newList [], .ref l], []⟩)) _ _ s
  refine wpAny_bind (wpAny_newList (wpAny_pure ⟨Code.quiet_builtin _ (by decide +kernel), codeAny_builtin entry_list_iadd' ?_⟩))
  show wpAny _ _ (Builtin.List.listExtendWith (.ref s.heap.objs.size) (.ref l) (.ref s.heap.objs.size)) _ _ { s with heap := s.heap.push (seqObj "list" #[] 0) }
  unfold Builtin.List.listExtendWith
  have ho' : (s.heap.push (seqObj "list" #[] 0)).get? l = some o := Heap.get?_push_of_some _ ho
  refine wpAny_bind (wpAny_typeOf (T := "tuple") ⟨o, ho', hc⟩ ?_)
  have ht : (Value.type "tuple" == Value.type "tuple") = true := by rfl
  rw [if_pos (by rw [ht]; simp)]
  refine wpAny_bind (listItems_at ho' hd ?_)
  refine wpAny_bind (listItems_at (xs := #[]) (n := 0) (Heap.get?_push_size _ rfl) rfl ?_)
  rw [if_neg (by simp)]
  refine wpAny_bind (listUpdate_at (xs := #[]) (n := 0) (Heap.get?_push_size _ rfl) rfl ?_ (Nat.zero_le _) (by show (#[] ++ vs.toArray).size ≤ sizeLine + 1; simp only [Array.size_append, List.size_toArray, List.length_nil]; omega))
  refine wpAny_pure ?_
  show wpAny (model prog w) A (do
      let o ← load s.heap.objs.size
      match o.data with
      | .seq xs _ => pure xs.toList
      | _ => unsupported "internal:collect") Q E { s with heap := (s.heap.push (seqObj "list" #[] 0)).update s.heap.objs.size (Obj.mapSeq (· ++ vs.toArray)) }
  refine wpAny_bind (wpAny_load (get?_update_seq (Heap.get?_push_size _ rfl) _) ?_)
  show wpAny _ _ (pure ((#[] : Array Value) ++ vs.toArray).toList) Q E _
  rw [show ((#[] : Array Value) ++ vs.toArray).toList = vs by simp]
  exact wpAny_pure h
theorem sorted_ordT {l : Addr} {vs : List Value} {ltv : Value → Value → Bool} {Q : Value → Shared → Prop} (O : Swo ltv) (hl : s.heap.IsTuple l vs.toArray) (hz : vs.length ≤ sizeLine)
    (hS : 2 ≤ vs.length → ∀ (h₁ : Heap) (a : Addr), h₁.get? a = some (seqObj "list" vs.toArray 0) → (∀ b o, s.heap.get? b = some o → b ≠ a ∧ h₁.get? b = some o) → SortableO prog w A.in1.in1 { s with heap := h₁ } a vs ltv)
    (h : ∀ out : List Value, Srtd ltv out → Stb ltv out vs → Q (.ref (s.heap.objs.size + 1)) { s with heap := sortedAll s.heap vs out.toArray }) :
    wpAny (model prog w) A (call (.builtin "sorted") [.ref l]) Q E s := by
  refine Calls.call_function_entry kind_sorted plain_sorted entry_sorted (args_sorted1 _) ?_
  unfold Builtin.«sorted»
  refine wpAny_bind (m := checkCount "sorted" 1 1 _) (wpAny_pure ?_)
  refine wpAny_bind (collect_tup hl ?_ hz)
  refine wpAny_bind (wpAny_newList ?_ hz)
  have hsz : ((s.heap.push (seqObj "list" #[] 0)).update s.heap.objs.size (Obj.mapSeq (· ++ vs.toArray))).objs.size = s.heap.objs.size + 1 := by
    rw [Heap.size_update, size_push']
  have hoL : (((s.heap.push (seqObj "list" #[] 0)).update s.heap.objs.size (Obj.mapSeq (· ++ vs.toArray))).push (seqObj "list" vs.toArray 0)).get? (s.heap.objs.size + 1) = some (seqObj "list" vs.toArray 0) := by
    rw [← hsz]; exact Heap.get?_push_size _ rfl
  have keep : ∀ b o, s.heap.get? b = some o → b ≠ s.heap.objs.size + 1 ∧ (((s.heap.push (seqObj "list" #[] 0)).update s.heap.objs.size (Obj.mapSeq (· ++ vs.toArray))).push (seqObj "list" vs.toArray 0)).get? b = some o := fun b o q => by
    have hlt : b < s.heap.objs.size := Heap.lt_size q
    refine ⟨Nat.ne_of_lt (Nat.lt_succ_of_lt hlt), Heap.get?_push_of_some _ ?_⟩
    rw [Heap.get?_update_ne _ _ _ _ (Nat.ne_of_lt hlt)]
    exact Heap.get?_push_of_some _ q
  show wpAny _ _ _ _ _ { s with heap := ((s.heap.push (seqObj "list" #[] 0)).update s.heap.objs.size (Obj.mapSeq (· ++ vs.toArray))).push (seqObj "list" vs.toArray 0) }
  rw [hsz]
  refine wpAny_bind (wpAny_holding (wpAny_call_entry slot_list_sort ⟨_, hoL, rfl⟩ entry_list_sort (list_sort_ord O hoL hz (fun h2 => hS h2 _ _ hoL keep) fun out hs hb => ⟨_, rfl, ?_⟩) (args_list_sort _)))
  exact wpAny_pure ⟨_, rfl, h out hs hb⟩
end
end SrtO
namespace L2
open PySem PySem.Spec PyProof.Rows
def rSortedIT (K : PySem.W.Frag) : List V → Hp → VK → Prop := fun vs H Q => ∃ (a : Addr) (ns : List Int), vs = [V.ref a] ∧ SqT K H a (ns.map V.int) ∧
  ∀ (ns' : List Int) (p : Addr), ns'.Perm ns → ns'.Pairwise (· ≤ ·) → H p = none → Q (.ref p) (upd H p (.lst (ns'.map V.int)))
def rInDT (K : PySem.W.Frag) : R2 := fun x y H Q => ∃ d ds, Dp K H x d ∧ Dp K H y (.tuple ds) ∧ SeqAt.shaped d = true ∧ SeqAt.shaped (.tuple ds) = true ∧ Q (.bl (ds.any fun z => PyData.eqv z d)) H
section
variable {X : Cx}
theorem cr_sortedIT : CallR X (.builtin "sorted") (rSortedIT X.K) := by
  intro pins s σ H vs us Q I r h
  obtain ⟨a, ns, rfl, hs, q⟩ := h
  obtain ⟨its, rv, hl, hz⟩ := I.tuple hs
  rw [Vals.ref1 r]
  have hi := rv.ints
  refine SrtO.sorted_ordT SrtO.swo_int hl (by rw [← rv.length]; exact hz) (fun h2 h₁ a' _ _ => SrtO.ints_sortable hi h2) fun out h1 h2 => ?_
  obtain ⟨k1, k2, k3⟩ := SrtO.ints_out hi h1 h2
  obtain ⟨ep, he'⟩ := PyProof.Rows.sortedAll_at s.heap its out.toArray
  have hlen : ((out.map SrtO.iv).map V.int).length ≤ sizeLine := by
    rw [List.length_map, k2.length_eq]
    rw [List.length_map] at hz
    exact hz
  exact ⟨.ref _, upd H (s.heap.objs.size + 1) (.lst ((out.map SrtO.iv).map V.int)), I.laid (t' := s.toks) (fun _ _ => PyProof.Rows.sortedAll_old) (Nat.le_succ _) ⟨hlen, out, ep, vals_of_ints k1, he'⟩, rfl, q _ _ k2 k3 (I.hok.fresh (Nat.le_succ _))⟩
theorem op_inDT (hu : X.A.units + 65 < cLine) : OpR X (compareOp .In) (rInDT X.K) := by
  intro pins s σ H x y v u Q I rx ry h
  obtain ⟨d, ds, hd, he, sd, se, q⟩ := h
  obtain ⟨as, r1⟩ := Dp.reads I d x v hd rx
  obtain ⟨bs, r2⟩ := Dp.reads I (.tuple ds) y u he ry
  exact SeqAt.in_tuple_reads r2 r1 (SeqAt.canLay_of_shaped se) (SeqAt.canLay_of_shaped sd) (room_in_shaped sd hu) ⟨.bl _, H, I, rfl, q⟩
end
end L2

/-! ### tuple[::-1], nested data by <, x not in range(..) -/
namespace HT
open PySem PySem.Spec PyProof.Rows
section
variable {prog : Program} {w : World} {A : Around} {E : Value → Shared → Prop} {s : Shared}
theorem sliceApplied_rev {sl : Addr} {vl vu vs : Value} {n : Nat} {Q : Int × Int × Nat → Shared → Prop} (hs : s.heap.IsSliceOf sl vl vu vs) (pl : IsPart vl none) (pu : IsPart vu none) (ps : IsPart vs (some (-1)))
    (h : Q ((n : Int) - 1, -1, n) s) : wpAny (model prog w) A (Builtin.Slice.sliceApplied (.ref sl) (pure (n : Int))) Q E s := by
  obtain ⟨os, hos, hcs, hds⟩ := id hs
  unfold Builtin.Slice.sliceApplied Builtin.Slice.sliceFields
  refine wpAny_bind (wpAny_bind (wpAny_field hos hds (x := vl) rfl (wpAny_bind (wpAny_field hos hds (x := vu) rfl (wpAny_bind (wpAny_field hos hds (x := vs) rfl (wpAny_pure ?_)))))))
  refine wpAny_bind (slicePart_ ps ?_)
  show wpAny _ _ (if ((-1 : Int) == 0) = true then _ else _) _ _ s
  rw [if_neg (by decide)]
  refine wpAny_bind (slicePart_ pl (wpAny_bind (slicePart_ pu (wpAny_bind (wpAny_pure ?_)))))
  have e2 : Builtin.Slice.slicePlaces ((n : Int) - 1) (-1) (-1) = n := by
    unfold Builtin.Slice.slicePlaces
    rw [if_neg (by decide)]
    by_cases c : (n : Int) - 1 > -1
    · rw [if_pos c, show -(-1 : Int) = 1 from rfl, Int.ediv_one]
      omega
    · rw [if_neg c]
      omega
  show wpAny _ _ (pure (((n : Int) - 1), (-1 : Int), Builtin.Slice.slicePlaces ((n : Int) - 1) (-1) (-1))) _ _ s
  rw [e2]
  exact wpAny_pure h
theorem fm_some {α β : Type} {f : α → Option β} {g : α → β} : ∀ l : List α, (∀ k ∈ l, f k = some (g k)) → l.filterMap f = l.map g
  | [], _ => rfl
  | a :: l, h => by
    rw [List.filterMap_cons, h a List.mem_cons_self, List.map_cons, fm_some l fun k hk => h k (List.mem_cons_of_mem _ hk)]
theorem pick_rev (items : Array Value) : ((List.range items.size).filterMap fun (k : Nat) => items[((items.size : Int) - 1 + (k : Int) * (-1)).toNat]?).toArray = items.toList.reverse.toArray := by
  congr 1
  have hlt : ∀ k ∈ List.range items.size, k < items.size := fun k hk => List.mem_range.mp hk
  have e : ∀ k, k < items.size → items[((items.size : Int) - 1 + (k : Int) * (-1)).toNat]? = some (items.toList.reverse.getD k .none) := fun k hk => by
    rw [show ((items.size : Int) - 1 + (k : Int) * (-1)).toNat = items.size - 1 - k by omega, List.getD_eq_getElem?_getD, List.getElem?_reverse (by rw [Array.length_toList]; exact hk), Array.length_toList, Array.getElem?_toList]
    rw [Array.getElem?_eq_getElem (by omega)]
    rfl
  have e2 : ((List.range items.size).filterMap fun (k : Nat) => items[((items.size : Int) - 1 + (k : Int) * (-1)).toNat]?) = (List.range items.size).map fun k => items.toList.reverse.getD k .none := by
    exact fm_some _ fun k hk => e k (hlt k hk)
  rw [e2]
  refine List.ext_getElem (by rw [List.length_map, List.length_range, List.length_reverse, Array.length_toList]) fun i h1 h2 => ?_
  rw [List.getElem_map, List.getElem_range, List.getD_eq_getElem?_getD, List.getElem?_eq_getElem h2]
  rfl
theorem getItem_tuple_rev {t sl : Addr} {items : Array Value} {vl vu vs : Value} {Q : Value → Shared → Prop} (ht : IsTup s.heap t items) (hs : s.heap.IsSliceOf sl vl vu vs) (pl : IsPart vl none) (pu : IsPart vu none) (ps : IsPart vs (some (-1)))
    (h : Q (.ref s.heap.objs.size) { s with heap := s.heap.push { cls := .type "tuple", data := .seq items.toList.reverse.toArray } }) (hsz : items.size ≤ sizeLine) : wpAny (model prog w) A (getItem (.ref t) (.ref sl)) Q E s := by
  have htake : sizeOk (.seq items.toList.reverse.toArray) := by
    show items.toList.reverse.toArray.size ≤ sizeLine
    rw [List.size_toArray, List.length_reverse, Array.length_toList]
    exact hsz
  obtain ⟨os, hos, hcs, hds⟩ := id hs
  have hTs : s.TypeIs (.ref sl) "slice" := ⟨os, hos, hcs⟩
  unfold getItem
  try with_reducible refine wpAny_holding ?_
  first | refine wpAny_bind (wpAny_pure ?_) | skip
  refine wpAny_bind (wpAny_sequenceKey ht.typeIs (by decide) ?_)
  refine wpAny_bind (wpAny_callSpecial?_slot (name := Str.ofString "__getitem__") ht.typeIs PyProof.Rows.slot_tuple_getitem
    (wpAny_call_entry PyProof.Rows.slot_tuple_getitem ht.typeIs entry_tuple_getitem ?_ (args_tuple_getitem _ _)))
  show wpAny _ _ (Builtin.Tuple.tupleItemsOf (.ref t) >>= _) _ _ s
  refine wpAny_bind (tupleItemsOf_ ht ?_)
  refine wpAny_bind (wpAny_typeOf hTs ?_)
  rw [if_pos (by decide)]
  refine wpAny_bind (sliceApplied_rev hs pl pu ps ?_)
  have hno : ¬ ((((items.size : Int) - 1) == 0 && (-1 : Int) == 1 && items.size == items.size) = true) := by
    intro q
    rw [Bool.and_eq_true, Bool.and_eq_true] at q
    have q1 : (-1 : Int) = 1 := eq_of_beq q.1.2
    omega
  show wpAny _ _ (if (((items.size : Int) - 1) == 0 && (-1 : Int) == 1 && items.size == items.size) = true then _ else _) _ _ s
  rw [if_neg hno, pick_rev]
  first
    | exact wpAny_bind (m := Builtin.Tuple.tupleExact _) (wpAny_newObj_type (wpAny_pure ⟨_, rfl, wpAny_pure h⟩) htake)
    | exact wpAny_bind (m := Builtin.Tuple.tupleExact _) (wpAny_newObj_type (wpAny_bind (wpAny_pure (wpAny_pure ⟨_, rfl, wpAny_pure h⟩))) htake)
    | exact wpAny_bind (wpAny_bind (m := Builtin.Tuple.tupleExact _) (wpAny_newObj_type (wpAny_pure (wpAny_pure ⟨_, rfl, wpAny_pure h⟩)) htake))
    | exact wpAny_bind (wpAny_bind (m := Builtin.Tuple.tupleExact _) (wpAny_newObj_type (wpAny_pure ⟨_, rfl, wpAny_pure h⟩) htake))
end
end HT
namespace L2
open PySem PySem.Spec PyProof.Rows
def tRevT (K : PySem.W.Frag) (te : TE) : TE := fun σ H Q => te σ H fun x H1 => ∃ a xs, x = .ref a ∧ SqT K H1 a xs ∧ ∀ p, H1 p = none → Q (.ref p) (upd H1 p (.tup xs.reverse))
section
variable {X : Cx}
theorem pe_revT {e : Expr} {te : TE} {k : Nat} {p1 p2 p3 pos : Pos} {K : PySem.W.Frag} (hK : X.K = K) (he : PE X e te) : PE X (.Subscript e (.Slice none none (some (.UnaryOp .USub (.Constant (.int 1) k p1) p2)) p3) pos) (tRevT K te) := by
  subst hK
  refine ⟨fun pins s σ H Q I h => ?_⟩
  refine Subscript_ (thn (he.run pins s σ H _ I h) fun v s1 ⟨x, H1, I1, r1, q1⟩ => ?_)
  obtain ⟨a, xs, ex, hx, q⟩ := q1
  subst ex
  cases r1
  have hst : PO X (some (.UnaryOp .USub (.Constant (.int 1) k p1) p2)) (tPart (tUn (rU fun i => .int (-i)) (tC (.int 1)))) := po_some (pe_un un_neg pe_int)
  refine wpAny_Slice (thn (po_none.run pins s1 σ H1 (fun o H2 => o = none ∧ H2 = H1) I1 ⟨rfl, rfl⟩) fun vl s2 ⟨l, H2, I2, pl, el, e2⟩ => ?_)
  subst el e2
  refine thn (po_none.run pins s2 σ H2 (fun o H3 => o = none ∧ H3 = H2) I2 ⟨rfl, rfl⟩) fun vu s3 ⟨u, H3, I3, pu, eu, e3⟩ => ?_
  subst eu e3
  refine thn (hst.run pins s3 σ H3 (fun o H4 => o = some (-1) ∧ H4 = H3) I3 ⟨1, rfl, -1, rfl, rfl, rfl⟩) fun vs s4 ⟨o, H4, I4, ps, eo, e4⟩ => ?_
  subst eo e4
  have I5 : Inv X pins σ H4 { s4 with heap := s4.heap.push { cls := .type "slice", data := .fields #[vl, vu, vs] } } := I4.kept (t' := s4.toks) fun b ob q => Heap.get?_push_of_some _ q
  obtain ⟨its, r, ht, hz⟩ := I5.tuple hx
  have hlen := r.length
  show wpAny (model X.prog X.w) X.A (subscriptTail e (.Slice none none (some (.UnaryOp .USub (.Constant (.int 1) k p1) p2)) p3) (.ref a) (.ref s4.heap.objs.size)) (EP X pins σ Q) X.xe { s4 with heap := s4.heap.push { cls := .type "slice", data := .fields #[vl, vu, vs] } }
  refine tail_any (ops := [.ref a, .ref s4.heap.objs.size]) ht.typeIs (PyProof.Rows.slot_tuple_getitem.lookup) ?_ (by with_unfolding_all rfl)
  refine HT.getItem_tuple_rev ht (Heap.IsSliceOf.new _ vl vu vs) pl pu ps ?_ (by rw [List.size_toArray]; omega)
  refine ⟨.ref _, _, I5.laid (t' := s4.toks) (o := .tup xs.reverse) (fun b ob q => Heap.get?_push_of_some _ q) (Nat.le_refl _) ?_, rfl, q _ (I5.hok.fresh (Nat.le_refl _))⟩
  exact ⟨by rw [List.length_reverse]; exact hz, _, r.reverse, IsTup.new _ _⟩
/-- nested data of one shape -/
def rLtD (K : PySem.W.Frag) : R2 := fun x y H Q => ∃ d e, Dp K H x d ∧ Dp K H y e ∧ PySem.W.alike d e = true ∧ d ≠ .none ∧ d.depth ≤ 64 ∧ Q (.bl (PySem.W.dataLt d e)) H
theorem op_ltD (hu : X.A.units + 64 < cLine) : OpR X (compareOp .Lt) (rLtD X.K) := by
  intro pins s σ H x y v u Q I rx ry h
  obtain ⟨d, e, hd, he, al, nn, dep, q⟩ := h
  obtain ⟨as, r1⟩ := Dp.reads I d x v hd rx
  obtain ⟨bs, r2⟩ := Dp.reads I e y u he ry
  exact PySem.W.rcLt_alike d e X.A s v u as bs r1 r2 al nn (by have := Nat.min_le_left d.depth e.depth; omega) X.prog X.w _ _ ⟨.bl _, H, I, rfl, q⟩
theorem cr_range1 : CallR X (.type "range") (fun vs H Q => ∃ j, vs = [V.int j] ∧ ∀ p, H p = none → Q (.ref p) (upd H p (.rng 0 j))) := by
  intro pins s σ H vs us Q I r h
  obtain ⟨j, rfl, q⟩ := h
  obtain ⟨u1, rfl, rj⟩ : ∃ u1, us = [u1] ∧ RelV (.int j) u1 := by
    cases r with
    | cons r rr =>
      cases rr
      exact ⟨_, rfl, r⟩
  obtain ⟨u, rfl⟩ := rj
  refine call_range_1 ⟨.ref s.heap.objs.size, upd H s.heap.objs.size (.rng 0 j), I.laid (t' := s.toks + 1 + 1) (fun b o e => Heap.get?_push_of_some _ e) (Nat.le_refl _) ?_, rfl, q _ (I.hok.fresh (Nat.le_refl _))⟩
  exact ⟨s.toks, u, s.toks + 1, Heap.get?_push_size _ rfl⟩
theorem op_notIn_rng : OpR X (compareOp .NotIn) (fun x y H Q => ∃ i a lo hi, x = V.int i ∧ y = V.ref a ∧ H a = some (.rng lo hi) ∧ Q (.bl (!decide (lo ≤ i ∧ i < hi))) H) := by
  intro pins s σ H x y v u Q I rx ry h
  obtain ⟨i, a, lo, hi, rfl, rfl, ha, q⟩ := h
  obtain ⟨k, rfl⟩ := rx
  obtain rfl : u = Value.ref a := ry
  obtain ⟨t1, t2, t3, ho⟩ := I.hok a _ ha
  show wpAny _ _ (do return Value.bool (!(← contains (Value.ref a) (Value.int i k)))) _ _ s
  refine wpAny_bind (wpAny_contains_slot (T := "range") ⟨_, ho, rfl⟩ F.slot_range_contains (call_meets F.slot_range_contains ⟨_, ho, rfl⟩ F.entry_range_contains (F.args_range_contains_2 _ _) (q_contains a lo hi i t1 t2 t3 k)
    ⟨ho, wpAny_truthy_bool (wpAny_pure ⟨.bl _, H, I, rfl, ?_⟩)⟩))
  rw [place1]
  exact q
end
end L2

/-! ### tuple(d.values()) -/
namespace L2
open PySem PySem.Spec PyProof.Rows PySem.W
section
variable {prog : Program} {w : World} {A : Around} {E : Value → Shared → Prop} {s : Shared} {T : String} {r d : Addr} {n : Nat} {P : Nat → Value → Prop} {OK : Heap → Prop}
theorem collect_kdl {Q : List Value → Shared → Prop} (K : KdlSrc prog w T r d n P OK) (hh : A.handled = none) (hok : OK s.heap) (hn : n ≤ sizeLine)
    (hQ : ∀ (h' : Heap) (tk : Nat) (acc : Array Value), (∀ b o, s.heap.get? b = some o → h'.get? b = some o) → ItemsOf P acc n → Q acc.toList { s with heap := h', toks := tk }) :
    wpAny (model prog w) A (collect (.ref r)) Q E s := by
  have hlt := K.there _ hok
  unfold collect
  refine wpAny_bind (wpAny_runValue (codeAny_builtin F.entry_proto_collect ?_))
  rw [Around.under_plainId F.plain_proto_collect _]
  show wpAny _ A.in1 (newList [] >>= fun l => again (.builtin "list.__iadd__" ⟨[l, .ref r], []⟩)) _ _ s
  refine wpAny_bind (wpAny_newObj_type ?_)
  refine wpAny_pure ⟨plainId_quiet F.plain_list_iadd _, codeAny_builtin F.entry_list_iadd ?_⟩
  rw [Around.under_plainId F.plain_list_iadd _]
  show wpAny _ A.in1 (Builtin.List.listExtendWith (.ref s.heap.objs.size) (.ref r) (.ref s.heap.objs.size)) _ _ _
  have hS : (s.heap.push { cls := .type "list", data := .seq ([] : List Value).toArray }).get? s.heap.objs.size = some { cls := .type "list", data := .seq #[] 0 } := Heap.get?_push_size _ rfl
  refine wpAny_mono (kdl_extend (A := A) (R := fun rr s' => rr = .ok (.ret (.ref s.heap.objs.size)) ∧ ∃ (h' : Heap) (tk : Nat) (acc : Array Value) (c' : Nat), s' = { s with heap := h', toks := tk } ∧
      (∀ b o, s.heap.get? b = some o → h'.get? b = some o) ∧ h'.get? s.heap.objs.size = some { cls := .type "list", dict := none, data := .seq acc c', slots := #[] } ∧ ItemsOf P acc n)
    (s := { s with heap := s.heap.push { cls := .type "list", data := .seq ([] : List Value).toArray } }) K hh (K.keep _ _ hok fun b _ o e => Heap.get?_push_of_some _ e) _ (Nat.ne_of_gt hlt.1) (Nat.ne_of_gt hlt.2) _ 0 hS
    (fun h' tk acc c' hk e hi => ⟨rfl, h', tk, acc, c', rfl, fun b o q => hk b o (Nat.ne_of_lt (Heap.lt_size q)) (Heap.get?_push_of_some _ q), e, hi⟩) hn) (fun fin s' h => ?_) (fun e s' h => ?_)
  · cases fin with
    | done f =>
      obtain ⟨e, h', tk, acc, c', rfl, hk, hS', hi⟩ := h
      cases e
      show wpAny _ A (load s.heap.objs.size >>= _) _ _ _
      exact wpAny_bind (wpAny_load hS' (wpAny_pure (hQ h' tk acc hk hi)))
    | again c' =>
      refine ⟨h.1, codeAny_mono h.2 fun rr s'' hr' => ?_⟩
      obtain ⟨rfl, h', tk, acc, c', rfl, hk, hS', hi⟩ := hr'
      show wpAny _ A (load s.heap.objs.size >>= _) _ _ _
      exact wpAny_bind (wpAny_load hS' (wpAny_pure (hQ h' tk acc hk hi)))
  · exact absurd h.1 (by simp)
theorem code_tuple_new_kdl {Q₁ : Value → Shared → Prop} (K : KdlSrc prog w "dict_values" r d n P OK) (hh : A.handled = none) (hok : OK s.heap) (hn : n ≤ sizeLine)
    (h : ∀ (h' : Heap) (tk : Nat) (acc : Array Value), (∀ b o, s.heap.get? b = some o → h'.get? b = some o) → ItemsOf P acc n →
      Q₁ (.ref h'.objs.size) { s with heap := h'.push { cls := .type "tuple", data := .seq acc }, toks := tk }) :
    codeAny (model prog w) A (.call (.builtin "tuple.__new__") ⟨[.type "tuple", .ref r], []⟩) (wants Q₁ E) s := by
  refine codeAny_of_tree ?_
  show wpAny _ A.in1 (do checkBuiltinCall "tuple.__new__" ⟨[.type "tuple", .ref r], []⟩; again (.builtin "tuple.__new__" ⟨[.type "tuple", .ref r], []⟩)) _ _ s
  refine wpAny_bind (wpAny_of_eq (F.newCall_tuple_1 _) (wpAny_pure ⟨plainId_quiet F.plain_tuple_new _, codeAny_builtin F.entry_tuple_new ?_⟩))
  rw [Around.under_plainId F.plain_tuple_new _]
  have hsub := sub_tuple_self
  have hinit := init_tuple_lookup
  have hmh := madeHere_tuple
  have hTI : s.TypeIs (.ref r) "dict_values" := K.type s hok
  have hh1 : A.in1.handled = none := hh
  wp_walk using wpAny_typeOf hTI, collect_kdl (A := A.in1) K hh1 hok hn
  intro h' tk acc hk hacc
  show wpAny _ _ (Builtin.Tuple.tupleExact acc.toList.toArray >>= fun v => ret v) _ _ _
  unfold Builtin.Tuple.tupleExact
  refine wpAny_bind (wpAny_newObj_type ?_ (by show acc.toList.toArray.size ≤ sizeLine; simp only [Array.toArray_toList]; rw [hacc.1]; exact hn))
  refine wpAny_pure ?_
  have e : acc.toList.toArray = acc := by simp
  rw [e]
  exact h h' tk acc hk hacc
theorem call_tuple_kdl {Q : Value → Shared → Prop} (K : KdlSrc prog w "dict_values" r d n P OK) (hh : A.handled = none) (hok : OK s.heap) (hn : n ≤ sizeLine)
    (hQ : ∀ (h' : Heap) (tk : Nat) (acc : Array Value), (∀ b o, s.heap.get? b = some o → h'.get? b = some o) → ItemsOf P acc n →
      Q (.ref h'.objs.size) { s with heap := h'.push { cls := .type "tuple", data := .seq acc }, toks := tk }) :
    wpAny (model prog w) A (call (.type "tuple") [.ref r]) Q E s := by
  refine callType_codes (Q₁ := fun obj s₁ => s₁.TypeIs obj "tuple" ∧ Q obj s₁) F.called_tuple (F.typeCall_tuple_1 _) F.entry_object_init
    (code_tuple_new_kdl (A := A.in1) K hh hok hn fun h' tk acc hk hacc => ⟨⟨_, Heap.get?_push_size _ rfl, rfl⟩, hQ h' tk acc hk hacc⟩) fun obj s₁ h₁ => ?_
  exact ⟨h₁.1, F.args_object_init_2 obj _, object_init_meets F.called_tuple.init.lookup F.called_tuple.made (by decide) prog w A.in1 _ s₁ ⟨h₁.1, rfl, h₁.2⟩⟩
end
def tTupVals (td : TE) : TE := fun σ H Q => td σ H fun x H1 => ∃ a kvs, x = V.ref a ∧ H1 a = some (.dK kvs) ∧ ∀ p, H1 p = none → Q (.ref p) (upd H1 p (.tup (kvs.map (·.2))))
section
variable {X : Cx} {o : Expr} {p pos apos mpos : Pos} {td : TE}
theorem pe_tupVals (hc : X.calm = true) (hg : Gl X "tuple") (hm : X.mg "tuple" = none) (hd : PE X o td) (hbase : attributeBase o "values" X.env (eval o X.env) = eval o X.env := by rfl) (hline : (apos.endLine == mpos.line) = true := by rfl)
    (hse : starEach [Expr.Call (.Attribute o "values" apos) [] [] mpos] X.env = [(false, eval (Expr.Call (.Attribute o "values" apos) [] [] mpos) X.env)] := by rfl) :
    PE X (.Call (.Name "tuple" p) [.Call (.Attribute o "values" apos) [] [] mpos] [] pos) (tTupVals td) := by
  refine ⟨fun pins s σ H Q I h => ?_⟩
  have hse2 : starEach [Expr.Call (.Attribute o "values" apos) [] [] mpos] X.env = (false, eval (Expr.Call (.Attribute o "values" apos) [] [] mpos) X.env) :: starEach [] X.env := hse
  refine Call_ (ld_blt I hg hm boot_tuple (PyProof.Rows.callWith_type1 (args_cons (wpAny_Call_method0_late hbase hline (thn (hd.run pins s σ H _ I h) fun v s1 ⟨x, H1, I1, r1, a, kvs, ex, ha, q⟩ => ?_)) hse2) hse2 rfl))
  subst ex
  obtain rfl : v = Value.ref a := r1
  obtain ⟨z, hsys, vs, rel, dof⟩ := dk_of I1.hok ha
  obtain ⟨ep, dat⟩ := dof.dictAt
  have dat' := dat
  obtain ⟨ob, es, ho, ex, hdat, hko, hpr, hnd⟩ := dat'
  refine ⟨"dict", "dict.values", F.plainAttrs_dict, F.slot_dict_values, F.type_dict_values, ⟨ob, ho, ex.1⟩, fun b e => ?_, Calls.callWith_builtin rfl (PySem.evalArgs_none ?_)⟩
  · cases e
    exact ⟨ob, ho, ex.2.1⟩
  refine call_meetsIn F.slot_dict_values ⟨ob, ho, ex.1⟩ F.entry_dict_values (F.args_dict_values_1 _) (meets_dict_values (mixKind X.prog X.w) a hsys) ⟨⟨vs, dof⟩, ?_⟩
  have k1 : ∀ b u, s1.heap.get? b = some u → (s1.heap.push { cls := .type "dict_values", data := .fields #[.ref a] }).get? b = some u := fun b u e => Heap.get?_push_of_some _ e
  have dat1 : (s1.heap.push { cls := .type "dict_values", data := .fields #[.ref a] }).DictAt (mixKind X.prog X.w) a vs ep := dat.keep k1
  refine args_nil ?_
  have hl : kvs.length = vs.length := Paired.length rel
  have I2 : Inv X pins σ H1 { s1 with heap := s1.heap.push { cls := .type "dict_values", data := .fields #[.ref a] } } := I1.kept (t' := s1.toks) k1
  refine call_tuple_kdl (kdl_values (knd := mixKind X.prog X.w) (d := a) (r := s1.heap.objs.size) (kvs := vs) (ep := ep)) (I.ok.hd hc) ⟨⟨_, Heap.get?_push_size _ rfl, rfl, rfl⟩, dat1⟩ (by rw [← hl]; exact z) fun h' tk acc hk hacc => ?_
  have I3 : Inv X pins σ H1 { s1 with heap := h', toks := tk } := I2.kept (t' := tk) hk
  refine ⟨.ref h'.objs.size, upd H1 h'.objs.size (.tup (kvs.map (·.2))), I3.laid (t' := tk) (fun b o e => Heap.get?_push_of_some _ e) (Nat.le_refl _) (show ObjOk X.prog X.w _ _ _ (.tup (kvs.map (·.2))) from ⟨by rw [List.length_map]; exact z, acc.toList, ?_, by rw [Array.toArray_toList]; exact IsTup.new _ _⟩), rfl, q _ (I3.hok.fresh (Nat.le_refl _))⟩
  have el : acc.toList.length = acc.size := by simp
  refine vals_of_at (by rw [List.length_map, el, hacc.1, hl]) fun j x w h1 h2 => ?_
  obtain ⟨k, hky⟩ := hacc.2 j w (by rw [← Array.getElem?_toList]; exact h2)
  obtain ⟨y, h3, h4⟩ := KV.at' rel hky
  rw [List.getElem?_map, h3] at h1
  cases h1
  exact h4
end
end L2

/-! ### enumerate over a tuple (the hand layer has it over a list) -/
namespace PySem
open Sem (wp)
open AutoSeq1 (wpAny_loadPart')
theorem new_enumT (t : Addr) (its : Array Value) (n : Nat) (dc : Option Addr) (sl : Array (Option Value)) :
    Meets (Builtin.«enumerate.__new__» ⟨[.type "enumerate", .ref t], []⟩) (fun _ R s => s.heap.get? t = some { cls := .type "tuple", dict := dc, data := .seq its n, slots := sl } ∧
      R (.ok (.ret (.ref (s.heap.push { cls := .type "tuple_iterator", data := .fields #[.ref t, .int 0 0] }).objs.size)))
        { s with heap := (s.heap.push { cls := .type "tuple_iterator", data := .fields #[.ref t, .int 0 0] }).push { cls := .type "enumerate", data := .fields #[.none, .bool false, .ref s.heap.objs.size, rawInt 0, .none, .none] } }) :=
  .of_wp fun prog w A R s both => by
    obtain ⟨hp, g, d, tk, os⟩ := s
    obtain ⟨ht, both⟩ := both
    have below := sub_enumerate
    have tup : Heap.IsTuple (Shared.heap ⟨hp, g, d, tk, os⟩) t its := ⟨_, ht, rfl, n, rfl⟩
    wp_walk using wpAny_loadPart' ht
    refine wpAny_stack_any fun _ => wpAny_pure ?_
    split
    · rename_i c _ _ _ _ _
      cases (c == Value.type "enumerate")
      · wp_walk using wpAny_loadPart' ht, wpAny_pyIter_tuple tup
        exact ⟨_, rfl, both⟩
      · wp_walk using wpAny_loadPart' ht, wpAny_pyIter_tuple tup
        exact ⟨_, rfl, both⟩
    · wp_walk using wpAny_loadPart' ht, wpAny_pyIter_tuple tup
      exact ⟨_, rfl, both⟩
section
variable {prog : Program} {w : World} {A : Around} {E : Value → Shared → Prop} {s : Shared}
theorem call_enumT {t : Addr} {its : Array Value} {Q : Value → Shared → Prop} (ht : s.heap.IsTuple t its)
    (q : ∀ h', IsEnum h' (s.heap.objs.size + 1) s.heap.objs.size 0 .none → h'.IsTupleIter s.heap.objs.size t 0 →
      (∀ b o, s.heap.get? b = some o → h'.get? b = some o) → Q (.ref (s.heap.objs.size + 1)) { s with heap := h' }) :
    wpAny (model prog w) A (call (.type "enumerate") [.ref t]) Q E s := by
  obtain ⟨⟨c, dc, da, sl⟩, ht, ec, n, ed⟩ := ht
  obtain rfl : c = .type "tuple" := ec
  obtain rfl : da = .seq its n := ed
  refine callType_new F.called_enumerate (by decide) (F.typeCall_enumerate_1 _) (F.newCall_enumerate_1 _) (fun ob => F.args_object_init_2 ob _) F.entry_enumerate_new (new_enumT t its n dc sl) ⟨ht, ?_⟩
  have sz : (s.heap.push { cls := .type "tuple_iterator", data := .fields #[.ref t, .int 0 0] }).objs.size = s.heap.objs.size + 1 := Heap.size_push ..
  show _ ∧ _
  rw [sz]
  have en : IsEnum ((s.heap.push { cls := .type "tuple_iterator", data := .fields #[.ref t, .int 0 0] }).push { cls := .type "enumerate", data := .fields #[.none, .bool false, .ref s.heap.objs.size, rawInt 0, .none, .none] })
      (s.heap.objs.size + 1) s.heap.objs.size 0 .none := by
    have z := Heap.get?_push_size (s.heap.push { cls := .type "tuple_iterator", data := .fields #[.ref t, .int 0 0] }) (o := { cls := .type "enumerate", data := .fields #[.none, .bool false, .ref s.heap.objs.size, rawInt 0, .none, .none] }) rfl
    rw [sz] at z
    exact z
  exact ⟨⟨_, en, rfl⟩, q _ en ⟨_, Heap.get?_push_of_some _ (Heap.get?_push_size _ rfl), rfl, rfl⟩ fun b o x => Heap.get?_push_of_some _ (Heap.get?_push_of_some _ x)⟩
end
end PySem
namespace L2
open PySem PySem.Spec PyProof.Rows
/-- the tuple at a, each item in a new pair behind its index -/
def IteT (K : PySem.W.Frag) (a : Addr) : It :=
  ⟨fun i H => ∃ (ys : List V) (y : V), SqT K H a ys ∧ ys[i]? = some y, fun i H v H' => ∃ p y, v = .ref p ∧ H p = none ∧ H' = upd H p (.tup [.int (i : Nat), y]) ∧ ∀ ys, SqT K H a ys → ys[i]? = some y,
    fun i H => ∃ ys : List V, SqT K H a ys ∧ ys.length = i⟩
theorem turn_enumT {P : Program} {w : World} {K : PySem.W.Frag} {elts : List Expr} {kk : Nat} {tp : Pos} (a e it : Addr) :
    Turn P w K (.Tuple elts kk tp) (IteT K a) [e, it] e (fun i h => (∃ old, IsEnum h e it ((i : Nat) : Int) old) ∧ h.IsTupleIter it a i ∧ (e ≠ it ∧ a ≠ it ∧ a ≠ e)) where
  mem := by simp
  obj := fun i h st b hb => by
    obtain ⟨⟨old, he⟩, ⟨o, ho, _, dd⟩, _⟩ := st
    rcases (show b = e ∨ b = it by simpa using hb) with rfl | rfl
    · exact ⟨_, he, fun v z => nomatch z⟩
    · exact ⟨o, ho, fun v z => by rw [dd] at z; exact nomatch z⟩
  keep := fun i h h' st k => by
    obtain ⟨⟨old, he⟩, ⟨o, ho, r⟩, ne⟩ := st
    exact ⟨⟨old, k e (by simp) _ he⟩, ⟨o, k it (by simp) _ ho, r⟩, ne⟩
  item := by
    intro X hP hw hK hc i pins s σ H E I hf st hg
    subst hP hw hK
    obtain ⟨⟨old, he⟩, hit, ne, nai, nae⟩ := st
    obtain ⟨ys, y, hq, hy⟩ := hg
    obtain ⟨its, rv, p, hz⟩ := I.tuple hq
    obtain ⟨u, hu, ru⟩ := rv.get hy
    have szE : e < s.heap.objs.size := Heap.lt_size he
    have szI : it < s.heap.objs.size := by
      obtain ⟨_, z, _⟩ := hit
      exact Heap.lt_size z
    have small : ∀ b ∈ [e, it], b < s.heap.objs.size := fun b hb => by
      rcases (show b = e ∨ b = it by simpa using hb) with rfl | rfl <;> assumption
    have D := Draws.tuple (prog := X.prog) (w := X.w) (A := X.A.in1) (I.ok.hd hc) it a nai its.toArray
    have hlt : i < its.toArray.size := by
      have := (List.getElem?_eq_some_iff.mp hu).1
      simpa using this
    refine wpAny_pyNext_enum_itemD D he ⟨hit, p⟩ hlt ne (by simp only [List.mem_cons, List.not_mem_nil, or_false, not_or]; exact ⟨ne, Ne.symm nae⟩) fun x h' tk hx ho st2 hT hsz hk => ?_
    obtain ⟨hit2, _⟩ := st2
    have ex : x = u := by
      have h2 : its.toArray[i]? = some u := by simpa using hu
      rw [h2] at hx
      exact (Option.some.inj hx).symm
    subst ex
    refine ⟨_, rfl, wpAny_letOwnedTupleGo_enum (s := { s with heap := h', toks := tk + 1 }) ho fun h'' he' sb => ?_⟩
    have hT2 : h''.get? s.heap.objs.size = some { cls := .type "tuple", data := .seq #[.int i tk, x] } := (sb.2 _ (Nat.ne_of_gt szE)).trans hT
    have okN : ObjOk X.prog X.w (upd H s.heap.objs.size (.tup [.int (i : Nat), y])) h'' s.heap.objs.size (.tup [.int (i : Nat), y]) :=
      ⟨by show 2 ≤ sizeLine; decide, [.int i tk, x], .cons ⟨_, rfl⟩ (.cons ru .nil), ⟨_, hT2, rfl, _, rfl⟩⟩
    have J : Inv X pins σ (upd H s.heap.objs.size (.tup [.int (i : Nat), y])) { s with heap := h'', toks := tk + 1 } :=
      I.turnedNew (ch := [e, it]) (fun b ob hb z => (sb.2 b (fun y => hb (by simp [y]))).trans (hk b ob (fun y => hb (by simp [y])) (fun y => hb (by simp [y])) z)) hf (Nat.le_refl _) okN
    refine ⟨.ref s.heap.objs.size, _, J, rfl, ⟨_, y, rfl, I.hok.fresh (Nat.le_refl _), rfl, fun zs hs => by rw [I.tuple_inj hs hq]; exact hy⟩, ⟨⟨x, ?_⟩, ?_, ne, nai, nae⟩, fun b hb => ?_⟩
    · rw [show ((i + 1 : Nat) : Int) = (i : Int) + 1 by omega]
      exact he'
    · obtain ⟨o, ho2, r⟩ := hit2
      exact ⟨o, (sb.2 it (Ne.symm ne)).trans ho2, r⟩
    · rw [upd_ne (Nat.ne_of_lt (small b hb))]
      exact (hf b hb).1
  done := by
    intro X hP hw hK hc i pins s σ H E I hf st hg
    subst hP hw hK
    obtain ⟨⟨old, he⟩, hit, ne, nai, nae⟩ := st
    obtain ⟨ys, hq, hle⟩ := hg
    obtain ⟨its, rv, p, hz⟩ := I.tuple hq
    have len : its.toArray.size = i := by
      have := rv.length
      simp
      omega
    obtain ⟨g0, g1, _, g3, g4, g5⟩ := hf it (by simp)
    rw [← len] at hit
    have D := Draws.tuple (prog := X.prog) (w := X.w) (A := X.A.in1) (I.ok.hd hc) it a nai its.toArray
    exact wpAny_pyNext_enum_endD D he ⟨hit, p⟩ fun h' eb => ⟨rfl, I.turned (t' := s.toks) (fun b o hb z => eb b o hb z) g0 g1 g3 g4 g5⟩
  self := fun A i s Q E st h => by
    obtain ⟨⟨_, he⟩, _⟩ := st
    exact wpAny_pyIter_enum he h
def iEnumT (K : PySem.W.Frag) (ta : TA) : TI := fun σ H R => ta σ H fun vs H1 => ∃ a ys, vs = [.ref a] ∧ SqT K H1 a ys ∧ R (IteT K a) H1
theorem pi_enumT {X : Cx} {e : Expr} {ta : TA} {p pos tp : Pos} {elts : List Expr} {kk : Nat} (hg : Gl X "enumerate") (hm : X.mg "enumerate" = none) (ha : PA X [e] ta) (hs : starEach [e] X.env = [(false, eval e X.env)] := by rfl) :
    PI X (.Tuple elts kk tp) (.Call (.Name "enumerate" p) [e] [] pos) (iEnumT X.K ta) := by
  refine ⟨fun pins s σ H R I h => Call_ (ld_blt I hg hm boot_enumerate (PyProof.Rows.callWith_type1 (thn (ha.run pos pins s σ H _ I h) fun us s1 ⟨vs, H1, I1, r1, q1⟩ => ?_) hs rfl))⟩
  obtain ⟨a, ys, rfl, hq, q⟩ := q1
  cases r1 with
  | cons r rr =>
    cases rr
    cases r
    obtain ⟨its, rv, p', hz⟩ := I1.tuple hq
    have hp' : s1.heap.IsTuple a its.toArray := p'
    have old : a < s1.heap.objs.size := by
      obtain ⟨o, ho, _⟩ := hp'
      exact Heap.lt_size ho
    refine call_enumT hp' fun h' he hit hk => wpAny_pyIter_enum he ?_
    refine ⟨s1.heap.objs.size + 1, [s1.heap.objs.size + 1, s1.heap.objs.size], _, _, H1, rfl, I1.kept (t' := s1.toks) hk, turn_enumT a (s1.heap.objs.size + 1) s1.heap.objs.size,
      ⟨⟨.none, he⟩, hit, Nat.succ_ne_self _, Nat.ne_of_lt old, Nat.ne_of_lt (Nat.lt_succ_of_lt old)⟩, fun b hb => ?_, q⟩
    have hle : s1.heap.objs.size ≤ b := by
      rcases (show b = s1.heap.objs.size + 1 ∨ b = s1.heap.objs.size by simpa using hb) with rfl | rfl
      · exact Nat.le_succ _
      · exact Nat.le_refl _
    exact I1.fpOk hle (I1.hok.fresh hle)
theorem walk_enumT {K : PySem.W.Frag} {a : Addr} {xs : List V} : Walk (IteT K a) xs.length (fun H => SqT K H a xs) (YPair (fun i => some (.int (i : Nat))) (fun i => xs[i]?)) :=
  ⟨fun i H hi h => ⟨xs, _, h, List.getElem?_eq_getElem hi⟩, fun H h => ⟨xs, h, rfl⟩, fun i H v H' hi h y => by
    obtain ⟨p, z, rfl, np, rfl, hz⟩ := y
    exact ⟨p, _, z, rfl, np, rfl, rfl, hz xs h⟩⟩
end L2

/-! ### max and min of a tuple of ints -/
namespace L2
open PySem PySem.Spec PyProof.Rows
theorem readsAll_ints {h : Heap} : ∀ {ns : List Int} {its : List Value}, Vals (ns.map V.int) its → ReadsAll h its (ns.map PyData.int) []
  | [], _, .nil => .nil
  | n :: ns, _, .cons r t => by
    obtain ⟨k, rfl⟩ := r
    exact .cons (.int n k) (readsAll_ints t)
theorem alikeAll_ints (ns : List Int) : PySem.W.AlikeAll (ns.map PyData.int) := by
  refine ⟨fun x hx y hy => ?_, fun x hx => ?_⟩
  · obtain ⟨a, _, rfl⟩ := List.mem_map.mp hx
    obtain ⟨b, _, rfl⟩ := List.mem_map.mp hy
    simp [PySem.W.alike]
  · obtain ⟨a, _, rfl⟩ := List.mem_map.mp hx
    exact fun z => nomatch z
theorem depthAll_ints : ∀ ns : List Int, PyData.depthAll (ns.map PyData.int) = 0
  | [] => by simp [PyData.depthAll]
  | _ :: ns => by simp [PyData.depthAll, PyData.depth, depthAll_ints ns]
theorem foldl_max (x : Int) : ∀ xs : List Int, xs.foldl max x ∈ x :: xs ∧ ∀ y ∈ x :: xs, y ≤ xs.foldl max x := by
  intro xs
  induction xs generalizing x with
  | nil => exact ⟨List.mem_cons_self, fun y hy => by rw [List.mem_singleton.mp hy]; exact Int.le_refl _⟩
  | cons a xs ih =>
    obtain ⟨h1, h2⟩ := ih (max x a)
    rw [List.foldl_cons]
    have h3 := h2 _ List.mem_cons_self
    refine ⟨?_, fun y hy => ?_⟩
    · rcases List.mem_cons.mp h1 with e | e
      · rw [e]
        by_cases c : x ≤ a
        · rw [show max x a = a by omega]
          exact List.mem_cons_of_mem _ List.mem_cons_self
        · rw [show max x a = x by omega]
          exact List.mem_cons_self
      · exact List.mem_cons_of_mem _ (List.mem_cons_of_mem _ e)
    · rcases List.mem_cons.mp hy with rfl | hy
      · omega
      · rcases List.mem_cons.mp hy with rfl | hy
        · omega
        · exact h2 y (List.mem_cons_of_mem _ hy)
theorem foldl_min (x : Int) : ∀ xs : List Int, xs.foldl min x ∈ x :: xs ∧ ∀ y ∈ x :: xs, xs.foldl min x ≤ y := by
  intro xs
  induction xs generalizing x with
  | nil => exact ⟨List.mem_cons_self, fun y hy => by rw [List.mem_singleton.mp hy]; exact Int.le_refl _⟩
  | cons a xs ih =>
    obtain ⟨h1, h2⟩ := ih (min x a)
    rw [List.foldl_cons]
    have h3 := h2 _ List.mem_cons_self
    refine ⟨?_, fun y hy => ?_⟩
    · rcases List.mem_cons.mp h1 with e | e
      · rw [e]
        by_cases c : x ≤ a
        · rw [show min x a = x by omega]
          exact List.mem_cons_self
        · rw [show min x a = a by omega]
          exact List.mem_cons_of_mem _ List.mem_cons_self
      · exact List.mem_cons_of_mem _ (List.mem_cons_of_mem _ e)
    · rcases List.mem_cons.mp hy with rfl | hy
      · omega
      · rcases List.mem_cons.mp hy with rfl | hy
        · omega
        · exact h2 y (List.mem_cons_of_mem _ hy)
def rMaxTI (K : PySem.W.Frag) : List V → Hp → VK → Prop := fun vs H Q => ∃ (a : Addr) (ns : List Int), vs = [V.ref a] ∧ SqT K H a (ns.map V.int) ∧ 0 < ns.length ∧ ∀ m, m ∈ ns → (∀ y, y ∈ ns → y ≤ m) → Q (.int m) H
def rMinTI (K : PySem.W.Frag) : List V → Hp → VK → Prop := fun vs H Q => ∃ (a : Addr) (ns : List Int), vs = [V.ref a] ∧ SqT K H a (ns.map V.int) ∧ 0 < ns.length ∧ ∀ m, m ∈ ns → (∀ y, y ∈ ns → m ≤ y) → Q (.int m) H
section
variable {X : Cx}
theorem cr_maxTI (hc : X.calm = true) (hu : X.A.units + 64 < cLine) : CallR X (.builtin "max") (rMaxTI X.K) := by
  intro pins s σ H vs us Q I r h
  obtain ⟨a, ns, rfl, hs, hne, q⟩ := h
  obtain ⟨its, rv, hl, _⟩ := I.tuple hs
  rw [Vals.ref1 r]
  cases ns with
  | nil => exact absurd hne (Nat.lt_irrefl 0)
  | cons x xs =>
    have hr : ReadsAll s.heap its.toArray.toList (PyData.int x :: xs.map PyData.int) [] := readsAll_ints rv
    refine PySem.W.max_tuple_data (I.ok.hd hc) hl hr (alikeAll_ints (x :: xs)) (by rw [show PyData.int x :: xs.map PyData.int = (x :: xs).map PyData.int from rfl, depthAll_ints]; omega) fun i v h' tk bs _ hv hk => ?_
    rw [PySem.W.maxD_ints] at hv
    obtain ⟨m1, m2⟩ := foldl_max x xs
    cases hv
    exact ⟨.int _, H, I.kept hk, ⟨_, rfl⟩, q _ m1 m2⟩
theorem cr_minTI (hc : X.calm = true) (hu : X.A.units + 64 < cLine) : CallR X (.builtin "min") (rMinTI X.K) := by
  intro pins s σ H vs us Q I r h
  obtain ⟨a, ns, rfl, hs, hne, q⟩ := h
  obtain ⟨its, rv, hl, _⟩ := I.tuple hs
  rw [Vals.ref1 r]
  cases ns with
  | nil => exact absurd hne (Nat.lt_irrefl 0)
  | cons x xs =>
    have hr : ReadsAll s.heap its.toArray.toList (PyData.int x :: xs.map PyData.int) [] := readsAll_ints rv
    refine PySem.W.min_tuple_data (I.ok.hd hc) hl hr (alikeAll_ints (x :: xs)) (by rw [show PyData.int x :: xs.map PyData.int = (x :: xs).map PyData.int from rfl, depthAll_ints]; omega) fun i v h' tk bs _ hv hk => ?_
    rw [PySem.W.minD_ints] at hv
    obtain ⟨m1, m2⟩ := foldl_min x xs
    cases hv
    exact ⟨.int _, H, I.kept hk, ⟨_, rfl⟩, q _ m1 m2⟩
end
end L2

/-! ### str(data), and calls of defs that show data, where nothing is being shown -/
namespace L2
open PySem PySem.Spec PyProof.Rows
def rStrD (K : PySem.W.Frag) : List V → Hp → VK → Prop := fun xs H Q => ∃ a d, xs = [.ref a] ∧ Dp K H (.ref a) d ∧ SeqAt.shaped d = true ∧ d.showable = true ∧ wt d ≤ sizeLine ∧ Q (.str d.shown) H
theorem cr_strD {X : Cx} {K : PySem.W.Frag} (hK : X.K = K) (hg : X.A.guards = some []) (hu : X.A.units + 67 < cLine) : CallR X (.type "str") (rStrD K) := by
  subst hK
  intro pins s σ H vs us Q I r h
  obtain ⟨a, d, rfl, hd, hs, hw, hz, q⟩ := h
  cases r with
  | cons rv rn =>
    rename_i v us'
    cases rn
    have hs' : (d.canLay0 && decide (d.depth ≤ 64)) = true := hs
    rw [Bool.and_eq_true] at hs'
    have nd := PyData.hasDict_of_canLay d hs'.1
    have dep : d.depth ≤ 64 := of_decide_eq_true hs'.2
    have sz := Nat.le_trans (shown_wt d hw nd) hz
    obtain ⟨as, rd⟩ := Dp.reads I d (.ref a) v hd rv
    cases rv
    exact str_of_reads rd hw (PyData.noDict_hsm nd) hg (by omega) (fun _ _ e => e) (fun h' u tk hk => ⟨.str _, H, I.kept (t' := tk) hk, ⟨u, rfl⟩, q⟩) sz
section
variable {X : Cx} {k : Nat} {f : Addr} {fd : FuncData} {ps : List Str} {sp : Sp} {ds : List Value} {dvs : List V}
theorem run_fnG {pins : List (Addr × Obj)} {σ : St} {H : Hp} {s : Shared} {Q : VK} {us : List Value} {vs : List V} (hgu : X.A.guards = some []) (F : FnG X.prog X.w X.K X.mg X.base k f fd ps sp) (hr : Room k X.A) (hb : Binds X.K fd ps ds) (hd : Vals dvs ds)
    (I : Inv X pins σ H s) (r : Vals vs us) (h : sp (vs ++ dvs) H Q E0) : wpAny (model X.prog X.w) X.A (call (.ref f) us) (EP X pins σ Q) X.xe s := by
  have r2 : Vals (vs ++ dvs) (us ++ ds) := r.append hd
  have hl : (us ++ ds).length = ps.length := by rw [← r2.length]; exact F.len _ _ _ _ h
  refine wpAny_call (codeAny_mono (F.run X.A X.stack s H ⟨us, []⟩ (us ++ ds) (vs ++ dvs) Q E0 hgu hr I.env0 (hb s us I.kIn hl) r2 h) fun r s' hq => ?_)
  cases r with
  | error e => exact pass0 pins σ H s e s' I hq
  | ok fl =>
    cases fl with
    | ret u => exact I.after hq
    | next => exact False.elim hq
    | brk => exact False.elim hq
    | cont => exact False.elim hq
theorem pe_callG {x : Str} {e : Expr} {es : List Expr} {p pos : Pos} {t : TA} (hgu : X.A.guards = some []) (F : FnG X.prog X.w X.K X.mg X.base k f fd ps sp) (hr : Room k X.A) (hg : Gl X x) (hm : X.mg x = some (.ref f)) (hk : PySem.W.keepIn X.K (.ref f) = true) (hb : Binds X.K fd ps ds) (hd : Vals dvs ds)
    (ha : PA X (e :: es) t) (hdb : (x == ("__debug__" : Str)) = false := by decide) (he : starEach (e :: es) X.env = (false, eval e X.env) :: starEach es X.env := by rfl) (hpl : (backTo pos (starEach es X.env)).any (·.1) = false := by rfl) :
    PE X (.Call (.Name x p) (e :: es) [] pos) (tCall sp dvs E0 t) := by
  refine ⟨fun pins s σ H Q I h => ?_⟩
  refine wpAny_Call_Name_kw (ld_glob I hg hm ?_ hdb)
  refine PySem.W.callWith_K (h₀ := X.base) I.ok.mod.kin hk (thn (ha.run pos pins s σ H _ I h) fun us s1 ⟨vs, H1, I1, r, q⟩ => ⟨I1.kIn, ?_⟩) he hpl
  exact run_fnG hgu F hr hb hd I1 r q
end
end L2

/-! ### fe(e, ..), fe an expression that gives one of several defs -/
namespace L2
open PySem PySem.Spec PyProof.Rows
structure HeldX (P : Program) (w : World) (K : PySem.W.Frag) (mg : Str → Option Value) (base : Heap) (CX : CXT) (k : Nat) (f : Addr) (sp : Sp) : Prop where
  ex : ∃ (fd : FuncData) (ps : List Str), FnOk P w K mg base CX k f fd ps sp ∧ PySem.W.keepIn K (.ref f) = true ∧ Binds K fd ps []
def tCallE (S : Addr → Option Sp) (E : St → XK) (tf : TE) (t : TA) : TE := fun σ H Q => tf σ H fun y H1 => ∃ f sp, y = V.ref f ∧ S f = some sp ∧ t σ H1 fun vs H2 => sp vs H2 Q (E σ)
section
variable {X : Cx} {CX : CXT} {k : Nat} {E : St → XK} {p pos : Pos} {fe e : Expr} {es : List Expr} {tf : TE} {t : TA}
theorem pe_callE {S : Addr → Option Sp} (hf : PE X fe tf) (A : ∀ f sp, S f = some sp → HeldX X.prog X.w X.K X.mg X.base CX k f sp) (hr : Room k X.A) (hx : ∀ σ, PassesAt CX X σ (E σ)) (ha : PA X (e :: es) t)
    (ht : eval (.Call fe (e :: es) [] pos) X.env = (do callWith pos (← eval fe X.env) [] (backTo pos (starEach (e :: es) X.env)) (backToKw pos (keywordEach [] X.env))) := by rfl)
    (he : starEach (e :: es) X.env = (false, eval e X.env) :: starEach es X.env := by rfl) (hpl : (backTo pos (starEach es X.env)).any (·.1) = false := by rfl) : PE X (.Call fe (e :: es) [] pos) (tCallE S E tf t) := by
  refine ⟨fun pins s σ H Q I h => ?_⟩
  refine Call_ (thn (hf.run pins s σ H _ I h) fun u s1 ⟨y, H1, I1, ry, f, sp, ey, hS, q⟩ => ?_) ht
  subst ey
  obtain rfl : u = Value.ref f := ry
  obtain ⟨fd, ps, F, hk, hb⟩ := (A f sp hS).ex
  refine PySem.W.callWith_K (h₀ := X.base) I.ok.mod.kin hk (thn (ha.run pos pins s1 σ H1 _ I1 q) fun us s2 ⟨vs, H2, I2, r, q2⟩ => ⟨I2.kIn, ?_⟩) he hpl
  exact run_fnS F hr hb (hx σ) I2 r q2
end
end L2

/-! ### any(list of integers); divmod by a divisor that may be negative -/
namespace L2
open PySem PySem.Spec PyProof.Rows
theorem vals_intsA : ∀ {zs : List Int} {its : List Value}, Vals (zs.map V.int) its → ∀ (i : Nat) (v : Value), its[i]? = some v → ∃ (z : Int) (t : Tok), zs[i]? = some z ∧ v = Value.int z t
  | [], _, h, i, v, e => by
    cases h
    exact nomatch e
  | z :: zs, _, h, i, v, e => by
    cases h with
    | cons r rs =>
      obtain ⟨t, rfl⟩ := r
      cases i with
      | zero => exact ⟨z, t, rfl, (Option.some.inj e).symm⟩
      | succ i => exact vals_intsA rs i v e
def rAnyI (K : PySem.W.Frag) : List V → Hp → VK → Prop := fun vs H Q => ∃ (a : Addr) (zs : List Int), vs = [V.ref a] ∧ SqL K H a (zs.map V.int) ∧ Q (.bl (zs.any (fun z => z != 0))) H
theorem cr_anyI {X : Cx} (hc : X.calm = true) : CallR X (.builtin "any") (rAnyI X.K) := by
  intro pins s σ H vs us Q I r h
  obtain ⟨a, zs, rfl, hs, q⟩ := h
  obtain ⟨its, rv, hl, _⟩ := I.list hs
  rw [Vals.ref1 r]
  have tr : TruthOf X.prog X.w X.A.in1 (fun i v => its.toArray[i]? = some v) (fun i => zs.getD i 0 != 0) := fun i v s Q E hv hq => by
    have hv' : its[i]? = some v := by simpa using hv
    obtain ⟨z, t, hz, rfl⟩ := vals_intsA rv i v hv'
    have e : zs.getD i 0 = z := by rw [List.getD_eq_getElem?_getD, hz]; rfl
    rw [← e]
    exact PySem.P.truthy_int hq
  refine call_any_walk (iter_any hl.isList fun s₂ e2 st hne => ?_)
  subst e2
  refine ⟨_, _, _, _, _, _, _, rfl, Walks.list (A := X.A.in1) (I.ok.hd hc) _ a hne its.toArray, st, tr, fun h' tk hk => ?_⟩
  refine ⟨.bl _, H, I.kept fun b o eo => hk b o (fun mem => ?_) (Heap.get?_push_of_some _ eo), ?_, q⟩
  · rcases List.mem_cons.mp mem with e1 | mem
    · exact absurd (e1 ▸ Heap.lt_size eo) (Nat.lt_irrefl _)
    · exact nomatch mem
  · show Value.bool _ = Value.bool _
    have len : its.toArray.size = zs.length := by
      have := rv.length
      rw [List.length_map] at this
      simp [this]
    have e : ∀ l : List Int, (List.range l.length).any (fun i => l.getD i 0 != 0) = l.any (fun z => z != 0) := fun l => by
      induction l with
      | nil => rfl
      | cons z l ih =>
        rw [List.length_cons, List.range_succ_eq_map, List.any_cons, List.any_map, List.any_cons, ← ih]
        rfl
    rw [len, e]
theorem call_divmodN {X : Cx} : CallR X (.builtin "divmod") (fun xs H Q => ∃ i j, xs = [.int i, .int j] ∧ CDivN i j ∧ ∀ p, H p = none → Q (.ref p) (upd H p (.tup [.int (i.fdiv j), .int (i.fmod j)]))) := by
  intro pins s σ H xs us Q I r h
  obtain ⟨i, j, rfl, ⟨h1, h2⟩, q⟩ := h
  obtain ⟨u, w', rfl, ⟨t, rfl⟩, ⟨t', rfl⟩⟩ := vals2 r
  refine divmod_int h1 ?_ (.inl (PyProof.noPylong_small h2))
  have free : H s.heap.objs.size = none := I.hok.fresh (Nat.le_refl _)
  have laid := I.laid (t' := s.toks + 1 + 1) (o := .tup [.int (i.fdiv j), .int (i.fmod j)]) (a := s.heap.objs.size) (h' := s.heap.push { cls := .type "tuple", data := .seq #[.int (i.fdiv j) s.toks, .int (i.fmod j) (s.toks + 1)] }) (fun b o e => Heap.get?_push_of_some _ e) (Nat.le_refl _)
    ⟨by show 2 ≤ sizeLine; decide, [.int (i.fdiv j) s.toks, .int (i.fmod j) (s.toks + 1)], .cons ⟨_, rfl⟩ (.cons ⟨_, rfl⟩ .nil), ⟨_, Heap.get?_push_size s.heap rfl, rfl, 0, rfl⟩⟩
  exact ⟨.ref s.heap.objs.size, _, laid, rfl, q _ free⟩
end L2

/-! ### factorial, comb -/
namespace L2
open PySem PySem.Spec PyProof.Rows
def rFac : List V → Hp → VK → Prop := fun xs H Q => ∃ a : Int, xs = [.int a] ∧ 0 ≤ a ∧ a ≤ 20000 ∧ Q (.int ((Builtin.Math.factorialNat a.toNat : Nat) : Int)) H
theorem cr_fac {X : Cx} : CallR X (.builtin "math.factorial") rFac := by
  intro pins s σ H vs us Q I r h
  obtain ⟨a, rfl, h0, h1, q⟩ := h
  obtain ⟨w1, rfl, t, rfl⟩ := vals1 r
  exact PySem.W.mc_factorial h0 h1 fun _ => ⟨.int _, H, I.tok _, ⟨_, rfl⟩, q⟩
def rComb : List V → Hp → VK → Prop := fun xs H Q => ∃ a b : Int, xs = [.int a, .int b] ∧ 0 ≤ a ∧ 0 ≤ b ∧ a ≤ 18000 ∧ Q (.int (PySem.W.mcComb a b)) H
theorem cr_comb {X : Cx} : CallR X (.builtin "math.comb") rComb := by
  intro pins s σ H vs us Q I r h
  obtain ⟨a, b, rfl, h0, h1, h2, q⟩ := h
  obtain ⟨t, u, rfl⟩ := Vals.int2 r
  have big : (18000 : Int) < 2 ^ 64 := by decide
  exact PySem.W.mc_comb h0 h1 (by omega) (.inr h2) fun _ => ⟨.int _, H, I.tok _, ⟨_, rfl⟩, q⟩
end L2

/-! ### walks of comprehensions with two fors -/
namespace L2
open PySem PySem.Spec PyProof.Rows
theorem walkD_list {K : PySem.W.Frag} {a : Addr} {xs : List V} {H0 : Hp} {Qd : Hp → Prop} {body : V → Hp → (Hp → Prop) → Prop} (Pv : Nat → Hp → Prop) (h0 : Pv 0 H0) (hl : ∀ i H, Pv i H → SqL K H a xs)
    (step : ∀ i x H, xs[i]? = some x → Pv i H → body x H (Pv (i + 1))) (last : ∀ H, Pv xs.length H → Qd H) :
    ∃ W : Nat → Nat → Hp → Prop, (∃ m, W 0 m H0) ∧ ∀ i m H, W i m H → ((Itl K a).stop i H ∧ Qd H) ∨ ((Itl K a).go i H ∧ ∃ Nx : Hp → Prop, (∀ H', Nx H' → ∃ m', m' < m ∧ W (i + 1) m' H') ∧ ∀ x H', (Itl K a).yld i H x H' → body x H' Nx) := by
  refine ⟨fun i m H => i + m = xs.length ∧ Pv i H, ⟨xs.length, Nat.zero_add _, h0⟩, fun i m H ⟨em, p⟩ => ?_⟩
  have sq := hl i H p
  cases m with
  | zero =>
    have e : i = xs.length := em
    exact .inl ⟨⟨xs, sq, by omega⟩, last H (e ▸ p)⟩
  | succ m =>
    have lt : i < xs.length := by omega
    refine .inr ⟨⟨xs, xs[i], sq, List.getElem?_eq_getElem lt⟩, Pv (i + 1), fun H' p' => ⟨m, Nat.lt_succ_self m, by omega, p'⟩, fun x H' ⟨eH, y⟩ => ?_⟩
    rw [eH]
    exact step i x H (y xs sq) p
theorem walkD_range {lo : Int} {n : Nat} {H0 : Hp} {Qd : Hp → Prop} {body : V → Hp → (Hp → Prop) → Prop} (Pv : Nat → Hp → Prop) (h0 : Pv 0 H0)
    (step : ∀ i H, i < n → Pv i H → body (.int (lo + (i : Nat))) H (Pv (i + 1))) (last : ∀ H, Pv n H → Qd H) :
    ∃ W : Nat → Nat → Hp → Prop, (∃ m, W 0 m H0) ∧ ∀ i m H, W i m H → ((Itr lo n).stop i H ∧ Qd H) ∨ ((Itr lo n).go i H ∧ ∃ Nx : Hp → Prop, (∀ H', Nx H' → ∃ m', m' < m ∧ W (i + 1) m' H') ∧ ∀ x H', (Itr lo n).yld i H x H' → body x H' Nx) := by
  refine ⟨fun i m H => i + m = n ∧ Pv i H, ⟨n, Nat.zero_add _, h0⟩, fun i m H ⟨em, p⟩ => ?_⟩
  cases m with
  | zero =>
    have e : i = n := em
    exact .inl ⟨Nat.le_of_eq e.symm, last H (e ▸ p)⟩
  | succ m =>
    have lt : i < n := by omega
    refine .inr ⟨lt, Pv (i + 1), fun H' p' => ⟨m, Nat.lt_succ_self m, by omega, p'⟩, fun x H' ⟨eH, y⟩ => ?_⟩
    rw [eH, y]
    exact step i H lt p
end L2

/-! ### max(list of ints, default=d) -/
namespace L2
open PySem PySem.Spec PyProof.Rows
def rMaxDef (K : PySem.W.Frag) : List V → List V → Hp → VK → Prop := fun xs zs H Q => ∃ (a : Addr) (ns : List Int) (d : Int), xs = [.ref a] ∧ zs = [.int d] ∧ SqL K H a (ns.map V.int) ∧ (ns = [] → Q (.int d) H) ∧ ∀ m, m ∈ ns → (∀ y, y ∈ ns → y ≤ m) → Q (.int m) H
theorem cr_maxDef {X : Cx} {K : PySem.W.Frag} (hK : X.K = K) (hc : X.calm = true) (hu : X.A.units + 64 < cLine) : CallRK X (.builtin "max") [Str.ofString "default"] (rMaxDef K) := by
  subst hK
  intro pins s σ H vs zs us ws Q I r rz h
  obtain ⟨a, ns, d, rfl, rfl, hs, q0, q1⟩ := h
  obtain rfl := Vals.ref1 r
  obtain ⟨w1, rfl, t, rfl⟩ := vals1 rz
  obtain ⟨its, rv, hl, _⟩ := I.list hs
  have hr : ReadsAll s.heap its.toArray.toList (ns.map PyData.int) [] := readsAll_ints rv
  refine PySem.W.max_list_default (I.ok.hd hc) hl.isList hr (alikeAll_ints ns) (by rw [depthAll_ints]; omega) (fun e h' tk hk => ⟨.int d, H, I.kept hk, ⟨_, rfl⟩, q0 (List.map_eq_nil_iff.mp e)⟩) fun y ys i v h' tk bs e _ hv hk => ?_
  cases ns with
  | nil => exact nomatch e
  | cons x xs =>
    obtain ⟨rfl, rfl⟩ := List.cons.inj e
    rw [PySem.W.maxD_ints] at hv
    obtain ⟨m1, m2⟩ := foldl_max x xs
    cases hv
    exact ⟨.int _, H, I.kept hk, ⟨_, rfl⟩, q1 _ m1 m2⟩
end L2

/-! ### a plain list comprehension over a list within an except suite; defs whose errors have no context -/
namespace HotX
open PySem PySem.Spec PyProof.Rows
variable {prog : Program} {w : World} {A : Around} {E : Value → Shared → Prop} {s : Shared}
theorem list_over_hot {it l x1 : Addr} {i : Nat} {items : Array Value} {Q : Option Value → Shared → Prop} (hot : HotAt A x1 s.heap) (hit : s.heap.IsListIter it l i) (hl : s.heap.IsList l items) (hx : items[i]? = none)
    (hQ : ∀ h', (∀ b o, b ≠ it → s.heap.get? b = some o → h'.get? b = some o) → Q none { s with heap := h' }) : wpAny (model prog w) A (pyNext (.ref it)) Q E s := by
  obtain ⟨oi, gi, ci, di⟩ := id hit
  obtain ⟨ol, gl, _, nl, dl⟩ := hl
  obtain ⟨hh, o1, vs1, g1, d1, c1⟩ := hot
  have ne1 : x1 ≠ it := fun z => by
    rw [z, gi] at g1
    obtain rfl := Option.some.inj g1
    rw [di] at d1
    obtain rfl := Data.fields.inj d1
    exact nomatch (show (some (Value.none) : Option Value) = _ from c1.symm)
  unfold pyNext
  apply wpAny_bind
  apply wpAny_attempt
  apply wpAny_callSpecial?_slot (name := Str.ofString "__next__") hit.typeIs slot_listiter_next
  apply wpAny_call_entry slot_listiter_next hit.typeIs entry_listiter_next ?_ (args_listiter_next _)
  show wpAny _ _ (field (Value.ref it) 0 >>= _) _ _ s
  apply wpAny_bind
  apply wpAny_field gi di (x := Value.ref l) rfl
  show wpAny _ _ (if (Value.ref l == Value.none) = true then _ else _) _ _ s
  rw [if_neg (by exact Bool.false_ne_true)]
  show wpAny _ _ (field (Value.ref it) 1 >>= _) _ _ s
  apply wpAny_bind
  apply wpAny_field gi di (x := Value.int i 0) rfl
  show wpAny _ _ (seqItems? (Value.ref l) >>= _) _ _ s
  apply wpAny_bind
  apply wpAny_seqItems gl dl
  simp only [Int.toNat_natCast, hx]
  apply wpAny_bind
  apply wpAny_rule
  apply wpAny_bind
  apply wpAny_setField gi di (by simp)
  show wpAny _ _ (newExc (Value.type "StopIteration") [] >>= _) _ _ _
  apply wpAny_bind
  simp only [newExc, newTuple]
  apply wpAny_bind
  apply wpAny_newObj_type (hd := by size_fits)
  apply wpAny_bind
  apply wpAny_of_eq (a := Value.none) (by first | rfl | exact rfl)
  apply wpAny_newObj_type (hd := by size_fits)
  have k1 : (s.heap.update it (Obj.mapFields fun x => x.setIfInBounds 0 Value.none)).get? x1 = some o1 := (Heap.get?_update_other _ _ ne1.symm).trans g1
  have k2 : ∀ o o' : Obj, (((s.heap.update it (Obj.mapFields fun x => x.setIfInBounds 0 Value.none)).push o).push o').get? x1 = some o1 := fun o o' => Heap.get?_push_of_some _ (Heap.get?_push_of_some _ k1)
  have k3 := fun o o' => Heap.lt_size (k2 o o')
  refine raiseNew_hot (A := A.in1) (x1 := x1) ⟨hh, o1, vs1, k2 _ _, d1, c1⟩ (Nat.ne_of_lt (Heap.lt_size (Heap.get?_push_of_some _ k1))) (Heap.get?_push_size _ rfl) rfl (by first | (simp; done) | (simp; omega)) ?_
  apply wpAny_bind
  refine wpAny_isInstance (b := true) (T := "StopIteration") ⟨_, Heap.get?_update_self _ (Heap.get?_push_size _ rfl) rfl, rfl⟩ isSubtype_stop (wpAny_pure (hQ _ fun b o nb e => ?_))
  have e1 := (Heap.get?_update_other s.heap (Obj.mapFields fun x => x.setIfInBounds 0 Value.none) (Ne.symm nb)).trans e
  have e2 := Heap.get?_push_of_some { cls := Value.type "tuple", data := Data.seq #[] } e1
  rw [Heap.get?_update_other _ _ (Nat.ne_of_gt (Heap.lt_size e2))]
  exact Heap.get?_push_of_some _ e2
end HotX
namespace L2
open PySem PySem.Spec PyProof.Rows HotX
/-- the except suite's own exception stands, its context is None -/
def HotS (X : Cx) : Prop := ∃ p : Addr × Obj, p ∈ X.pn ∧ X.A.handled = some (.ref p.1) ∧ ∃ vs : Array Value, p.2.data = .fields vs ∧ vs[2]? = some .none
/-- [e for y in xs], e without effect: f of each item -/
def tLcMap (K : PySem.W.Frag) (tl : TE) (g : TG) (te : TE) (vs : List Nat) : TE := fun σ H Q => tl σ H fun x H1 => ∃ (a : Addr) (xs : List V) (f : V → V), x = .ref a ∧ SqL K H1 a xs ∧ xs.length < sizeLine ∧
  (∀ y ∈ xs, ∀ H2 : Hp, g y (wipe σ vs) H2 fun σ2 H3 => wipe σ2 vs = wipe σ vs ∧ te σ2 H3 fun z H4 => z = f y ∧ H4 = H2) ∧ ∀ D, H1 D = none → Q (.ref D) (upd H1 D (.lst (xs.map f)))
theorem pe_lcMap {X : Cx} {elt tg iter : Expr} {scope : Scope} {own : List (Str × Nat)} {pos : Pos} {tl : TE} {g : TG} {te : TE} (hotX : HotS X) (nd : X.N.Nodup) (walked : PE X iter tl) (okb : BlkOk X.N X.env.scope scope own)
    (pgAll : ∀ (s : Shared) (H : Hp) (C : Addr) (cl : List (Str × Addr)) (fp : List Addr), PG (X.blk s H scope (compEnvC scope cl C X.env) fp) tg g)
    (peAll : ∀ (s : Shared) (H : Hp) (C : Addr) (cl : List (Str × Addr)) (fp : List Addr), PE (X.blk s H scope (compEnvC scope cl C X.env) fp) elt te)
    (fold : ∀ x, foldedSetIterable iter X.env x = pure x := by intro _; rfl) : PE X (.ListComp elt [⟨tg, iter, [], 0⟩] scope pos) (tLcMap X.K tl g te (own.map (·.2))) := by
  refine ⟨fun pins s σ H Q I h => ?_⟩
  have frees : ∀ y ∈ scope.names, y.2 = .free → ∃ c, X.env.cells.lookup y.1 = some c := fun y hy e => (okb.free y hy e).elim (fun k => I.ok.has _ (.inl k)) (fun k => I.ok.has _ (.inr k))
  rw [eval_ListComp]
  refine wpAny_comprehension_free (use := none) rfl fold (closure_ok frees) okb.kind (fun y hy e => by rw [okb.uniq y hy, e]) (thn (walked.run pins s σ H _ I h) fun itv s1 gone => ?_)
  obtain ⟨x, H1, I1, rx, a, xs, f, rfl, sq, big, each, q⟩ := gone
  cases rx
  obtain ⟨its, vals, plain, _⟩ := I1.list sq
  have lenV : xs.length = its.length := vals.length
  refine wpAny_pyIter_list plain.isList ?_
  -- the iterator
  have I2 : Inv X pins σ H1 { s1 with heap := s1.heap.push { cls := .type "list_iterator", data := .fields #[.ref a, .int 0 0] } } := I1.kept (t' := s1.toks) fun b o e => Heap.get?_push_of_some _ e
  have fpI := I1.fpOk (H' := H1) (Nat.le_refl s1.heap.objs.size) (I1.hok.fresh (Nat.le_refl _))
  have itr : (s1.heap.push { cls := .type "list_iterator", data := .fields #[.ref a, .int 0 0] }).IsListIter s1.heap.objs.size a 0 := ⟨_, Heap.get?_push_size _ rfl, rfl, rfl⟩
  have plain2 : PlainL (s1.heap.push { cls := .type "list_iterator", data := .fields #[.ref a, .int 0 0] }) a its.toArray := by
    obtain ⟨o, n, e, r⟩ := plain
    exact ⟨o, n, Heap.get?_push_of_some _ e, r⟩
  have lt2 : s1.heap.objs.size < (s1.heap.push { cls := .type "list_iterator", data := .fields #[.ref a, .int 0 0] }).objs.size := by
    rw [Heap.size_push]
    exact Nat.lt_succ_self _
  generalize eit : s1.heap.objs.size = it at itr lt2 fpI ⊢
  generalize es2 : ({ s1 with heap := s1.heap.push { cls := .type "list_iterator", data := .fields #[.ref a, .int 0 0] } } : Shared) = s2 at I2 ⊢
  have itr : s2.heap.IsListIter it a 0 := by rw [← es2]; exact itr
  have plain2 : PlainL s2.heap a its.toArray := by rw [← es2]; exact plain2
  have lt2 : it < s2.heap.objs.size := by rw [← es2]; exact lt2
  clear es2 eit
  -- the new list
  apply wpAny_newObj_type (T := "list") (hd := by show 0 ≤ sizeLine; exact Nat.zero_le _)
  apply newEnv_comp
  have nD : H1 s2.heap.objs.size = none := I2.hok.fresh (Nat.le_refl _)
  have ne0 : it ≠ s2.heap.objs.size := Nat.ne_of_lt lt2
  have I3 : Inv X pins σ (upd H1 s2.heap.objs.size (.lst [])) { s2 with heap := s2.heap.push { cls := .type "list", data := .seq ([] : List Value).toArray } } :=
    I2.laid (t' := s2.toks) (fun b o e => Heap.get?_push_of_some _ e) (Nat.le_refl _) ⟨Nat.zero_le _, [], 0, .nil, Heap.get?_push_size _ rfl⟩
  have itr3 : (s2.heap.push { cls := .type "list", data := .seq ([] : List Value).toArray }).IsListIter it a 0 := by
    obtain ⟨o, e, c, d⟩ := itr
    exact ⟨o, Heap.get?_push_of_some _ e, c, d⟩
  have lt3 : it < (s2.heap.push { cls := .type "list", data := .seq ([] : List Value).toArray }).objs.size := by
    rw [Heap.size_push]
    exact Nat.lt_succ_of_lt lt2
  generalize s2.heap.objs.size = D at nD ne0 I3 ⊢
  have fp3 : FpOk X pins (upd H1 D (.lst [])) it := ⟨by rw [upd_ne ne0]; exact fpI.1, fpI.2⟩
  generalize es3 : ({ s2 with heap := s2.heap.push { cls := .type "list", data := .seq ([] : List Value).toArray } } : Shared) = s3 at I3 ⊢
  have itr3 : s3.heap.IsListIter it a 0 := by rw [← es3]; exact itr3
  have lt3 : it < s3.heap.objs.size := by rw [← es3]; exact lt3
  have ed : s3.drawn = s2.drawn ∧ s3.gens = s2.gens ∧ s3.toks = s2.toks ∧ s3.os = s2.os := by rw [← es3]; exact ⟨rfl, rfl, rfl, rfl⟩
  have frs3 : ∀ b ∈ [it], FpOk X pins (upd H1 D (.lst [])) b ∧ b < s3.heap.objs.size := fun b hb => by rw [List.mem_singleton.mp hb]; exact ⟨fp3, lt3⟩
  have I4 := block_start I3 okb nd frs3
  obtain ⟨hp, hpn, hah, hvs, hfd, hnn⟩ := hotX
  have pin3 := I3.pin hp (List.mem_append_left _ hpn)
  have nostk : hp.1 ∉ frs X.stack := fun hm => (List.mem_cons.mp (I3.stkSub hp.1 hm)).elim pin3.2.2.1 pin3.2.2.2.1
  have noit : hp.1 ≠ it := fp3.2.2.2.2.2 hp (List.mem_append_left _ hpn)
  clear es3
  have pg0 := pgAll s3 (upd H1 D (.lst [])) s3.heap.objs.size (cellsFrom (s3.heap.objs.size + 1) scope.names (cloFrom X.env.cells scope.names [])) [it]
  have pe0 := peAll s3 (upd H1 D (.lst [])) s3.heap.objs.size (cellsFrom (s3.heap.objs.size + 1) scope.names (cloFrom X.env.cells scope.names [])) [it]
  let ce := compEnvC scope (cellsFrom (s3.heap.objs.size + 1) scope.names (cloFrom X.env.cells scope.names [])) s3.heap.objs.size X.env
  have locs : ce.locals = s3.heap.objs.size := rfl
  have noC : upd H1 D (.lst []) s3.heap.objs.size = none := I3.hok.fresh (Nat.le_refl _)
  have fpC := I3.fpOk (H' := upd H1 D (.lst [])) (Nat.le_refl s3.heap.objs.size) noC
  have neDC : s3.heap.objs.size ≠ D := fun z => by
    rw [z, upd_same] at noC
    exact nomatch noC
  have noC1 : H1 s3.heap.objs.size = none := by
    rw [upd_ne neDC] at noC
    exact noC
  show codeAny _ _ (.compStart (.ListComp elt [⟨tg, iter, [], 0⟩] scope pos) 0 (.ref it) (.ref D) ce) (compPost (model X.prog X.w) X.A X.xe none (EP X pins σ Q) (.ref D) s3.heap.objs.size) _
  have itr4 : (pushCells (s3.heap.push { cls := .type "dict", data := .dict #[] }) scope.names).IsListIter it a 0 := by
    obtain ⟨o, e, c, d⟩ := itr3
    exact ⟨o, pushCells_keeps _ _ _ _ (Heap.get?_push_of_some _ e), c, d⟩
  generalize es4 : ({ s3 with heap := pushCells (s3.heap.push { cls := .type "dict", data := .dict #[] }) scope.names } : Shared) = s4 at I4 ⊢
  have itr4 : s4.heap.IsListIter it a 0 := by rw [← es4]; exact itr4
  clear es4
  have twice : ∀ (o o' : HO), upd (upd H1 D o) D o' = upd H1 D o' := fun o o' => by
    funext b
    by_cases e : b = D
    · rw [e, upd_same, upd_same]
    · rw [upd_ne e, upd_ne e, upd_ne e]
  have oldKept : ∀ o : HO, Same H1 (upd H1 D o) := fun o b u e => by rw [upd_ne (ne_of_none e nD)]; exact e
  have itFree : ∀ o : HO, upd H1 D o it = none := fun o => by rw [upd_ne ne0]; exact fpI.1
  have hotAt : ∀ {σ5 : St} {H5 : Hp} {s5 : Shared}, Inv (X.blk s3 (upd H1 D (.lst [])) scope ce [it]) [] σ5 H5 s5 → HotAt X.A hp.1 s5.heap := fun I5 =>
    ⟨hah, hp.2, hvs, I5.base.keep hp.1 hp.2 pin3.1 pin3.2.1 nostk (fun hm => noit (List.mem_singleton.mp hm)), hfd, hnn⟩
  have fixed : ∀ {σ5 : St} {H5 : Hp} {s5 : Shared}, Inv (X.blk s3 (upd H1 D (.lst [])) scope ce [it]) [] σ5 H5 s5 → H5 it = none → FpOk (X.blk s3 (upd H1 D (.lst [])) scope ce [it]) [] H5 it := fun I5 hn =>
    ⟨hn, (I5.ok.exf it List.mem_cons_self).1, I5.ok.exfs it List.mem_cons_self, .inl List.mem_cons_self, fun x c e => (I5.ok.exf it List.mem_cons_self).2 x c e, fun p hp => nomatch hp⟩
  have main : codeAny (model X.prog X.w) X.A (.compLoop (.ListComp elt [⟨tg, iter, [], 0⟩] scope pos) 0 (.ref it) (.ref D) ce) (compPost (model X.prog X.w) X.A X.xe none (EP X pins σ Q) (.ref D) s3.heap.objs.size) s4 := by
    refine compLoop_any (fun n s' => ∃ i, n = xs.length - i ∧ i ≤ xs.length ∧ Inv (X.blk s3 (upd H1 D (.lst [])) scope ce [it]) [] (wipe σ (own.map (·.2))) (upd H1 D (.lst ((xs.take i).map f))) s' ∧ s'.heap.IsListIter it a i) ?_ xs.length ⟨0, rfl, Nat.zero_le _, I4, itr4⟩
    rintro n s5 ⟨i, rfl, hi, I5, it5⟩
    obtain ⟨its5, vals5, plain5, _⟩ := I5.list (show SqL X.K _ a xs from (oldKept _).seq sq)
    obtain ⟨f0, f1, f2, f3, f4, f5⟩ := fixed I5 (itFree _)
    have len5 : xs.length = its5.length := vals5.length
    by_cases c : i < xs.length
    · obtain ⟨u, hu, ru⟩ := vals5.get (List.getElem?_eq_getElem c)
      refine wpAny_pyNext_list_item it5 plain5.isList (x := u) (by simpa using hu) fun h' next sb => ?_
      have I6 := I5.turned (h' := h') (t' := s5.toks) (fun b o hb e => (sb.2 b hb).trans e) f0 f1 f3 f4 f5
      obtain ⟨oi, ei, ci, di⟩ := next
      refine go_of (s := { s5 with heap := h' }) ei ci di (by decide) ?_
      have I6p := I6.pinned (fp := [it]) (fun b hb => by rw [List.mem_singleton.mp hb]; exact fixed I6 (itFree _)) (fun b hb => by rw [List.mem_singleton.mp hb]; exact ⟨oi, ei, fun v z => by rw [di] at z; cases z⟩)
      refine thnF (pg0.run _ _ _ _ xs[i] u _ I6p ru (each _ (List.getElem_mem c) _)) fun _ s7 ⟨σ7, H7, I7, hw, q7⟩ => ?_
      refine wpAny_tests_nil ?_
      rw [if_pos rfl]
      refine thnF (pe0.run _ s7 σ7 H7 _ I7 q7) fun z s8 ⟨yv, H8, I8, r8, ez, eH⟩ => ?_
      subst ez eH
      refine app_ok (X := X.blk s3 (upd H1 D (.lst [])) scope ce [it]) I8 upd_same (by rw [List.length_map, List.length_take]; omega) r8 fun s9 I9 => ?_
      have pinned := (I9.pin (it, oi) (List.mem_append_right _ (List.mem_append_right _ (mem_pinsAt List.mem_cons_self ei)))).1
      refine ⟨xs.length - (i + 1), by omega, i + 1, rfl, c, ?_, ⟨oi, pinned, ci, di⟩⟩
      have I10 := (I9.unpinned (pins := [])).weak (σ' := wipe σ (own.map (·.2))) (by rw [← hw, wipe_length]) fun j v e => by
        rw [← hw] at e
        exact (wipe_some e).1
      rw [twice, show (xs.take i).map f ++ [f xs[i]] = (xs.take (i + 1)).map f by rw [List.take_succ, List.getElem?_eq_getElem c, List.map_append]; rfl] at I10
      exact I10
    · obtain rfl : i = xs.length := by omega
      refine list_over_hot (hotAt I5) it5 plain5.isList (by simp; omega) fun h' kept => ?_
      have I6 := I5.turned (h' := h') (t' := s5.toks) kept f0 f1 f3 f4 f5
      have I7 : Inv X pins σ _ _ := I3.call' (ch := [it]) I6.os I6.base I6.hok I6.bare fun b hb => by
        have z := (frs3 b hb).1
        exact ⟨z.2.2.2.1, z.2.1, z.2.2.2.2.1, z.2.2.2.2.2⟩
      obtain ⟨m, hns, _⟩ := I6.loc
      obtain ⟨_, c1, c2, c3, c4, c5⟩ := fpC
      refine ⟨m, hns, fun h2 sb => ⟨.ref D, _, I7.turned (t' := s5.toks) (fun b o hb e => (sb.2 b hb).trans e) ?_ c1 c3 c4 c5, rfl, ?_⟩⟩
      · rw [upd_ne neDC]
        exact noC1
      · rw [List.take_length]
        exact q D nD
  exact codeAny_compStart_list main (wpAny_pyIter_listiter itr4 main)
end L2
namespace L2
open PySem PySem.Spec PyProof.Rows
/-- a def whose errors have no context -/
theorem Fun.okXN {P : Program} {w : World} {K : PySem.W.Frag} {mg : Str → Option Value} {base : Heap} {x qual : Str} {st : Stmt} {f : Addr} {fd : FuncData} {N ps : List Str} {k : Nat} {sp : Sp} (F : Fun K x qual st f fd) (S : FnScope N ps (defScope st))
    (len : ∀ vs H Q E, sp vs H Q E → vs.length = ps.length)
    (body : ∀ (cdv : Value) (A : Around) (outer : List Env) (s : Shared) (H : Hp) (vs : List V) (Q : VK) (E : XK), Room k (A.deeper (envOfC qual (defScope st) s.heap.objs.size f cdv)) → sp vs H Q E →
      ∃ t, PSs (cxOf (L2N.CX P w) P w K mg base N qual (defScope st) f cdv A outer s H E) (defBody st) t ∧ t { nx := fun _ H' => Q .non H', rt := Q } (start N vs) H) : FnOk P w K mg base (L2N.CX P w) (k + 1) f fd ps sp := by
  obtain ⟨_, _, _, _, _, _, _, _, _, rfl, known, coded⟩ := F.ex
  exact fn_of known coded S len fun A outer s H vs Q E room hsp => body _ A outer s H vs Q E room hsp
/-- what an except suite knows -/
theorem hotS_of {X : Cx} {a : Addr} {oe : Obj} {pn : List (Addr × Obj)} {cls : Value} {d : Option Addr} (hz : L2N.Zn cls d oe) (hf : ∃ vs, oe.data = .fields vs) : HotS (X.suite a ((a, oe) :: pn)) := by
  obtain ⟨vs, e⟩ := hf
  exact ⟨(a, oe), List.mem_cons_self, rfl, vs, e, hz.2.2 vs e⟩
end L2
namespace L2
open PySem PySem.Spec PyProof.Rows
theorem passLN {X : Cx} : Passes (L2N.CX X.prog X.w) X E0 := fun _ _ _ _ _ _ _ h => by
  obtain ⟨_, _, _, _, _, _, _, _, _, _, _, _, no⟩ := h
  exact no.elim
theorem takes0N {X : Cx} : L2N.Takes X (fun _ _ _ _ => False) := fun _ _ h => by
  obtain ⟨_, _, _, _, _, _, _, _, _, _, _, _, _, _, _, _, no⟩ := h
  exact no.elim
end L2
namespace L2
open PySem PySem.Spec PyProof.Rows
theorem pe_lcMapK {X : Cx} {K : PySem.W.Frag} {elt tg iter : Expr} {scope : Scope} {own : List (Str × Nat)} {pos : Pos} {tl : TE} {g : TG} {te : TE} (hK : X.K = K) (nd : X.N.Nodup) (walked : PE X iter tl) (okb : BlkOk X.N X.env.scope scope own)
    (pgAll : ∀ (s : Shared) (H : Hp) (C : Addr) (cl : List (Str × Addr)) (fp : List Addr), PG (X.blk s H scope (compEnvC scope cl C X.env) fp) tg g)
    (peAll : ∀ (s : Shared) (H : Hp) (C : Addr) (cl : List (Str × Addr)) (fp : List Addr), PE (X.blk s H scope (compEnvC scope cl C X.env) fp) elt te) (hotX : HotS X)
    (fold : ∀ x, foldedSetIterable iter X.env x = pure x := by intro _; rfl) : PE X (.ListComp elt [⟨tg, iter, [], 0⟩] scope pos) (tLcMap K tl g te (own.map (·.2))) := by
  subst hK
  exact pe_lcMap hotX nd walked okb pgAll peAll fold
end L2

/-! ### the difference of two sets of small ints -/
namespace L2
open PySem PySem.Spec PyProof.Rows
namespace SD
/-! tables -/
def it (m : Nat) : Nat → Nat → Nat
  | i, 0 => i
  | i, k + 1 => it m ((i * 5 + 1) % (m + 1)) k
def roundB (m : Nat) : Bool := (List.range (m + 1)).all fun i => (List.range (m + 1)).all fun j => (List.range (m + 1)).any fun k => it m i k == j
theorem round_ok {m : Nat} (hm : m = 7 ∨ m = 15 ∨ m = 31 ∨ m = 63) : roundB m = true := by
  rcases hm with rfl | rfl | rfl | rfl <;> decide +kernel
theorem it_all {m i j : Nat} (hm : m = 7 ∨ m = 15 ∨ m = 31 ∨ m = 63) (hi : i ≤ m) (hj : j ≤ m) : ∃ k, k ≤ m ∧ it m i k = j := by
  have h1 := List.all_eq_true.mp (round_ok hm) i (List.mem_range.mpr (by omega))
  have h2 := List.all_eq_true.mp h1 j (List.mem_range.mpr (by omega))
  obtain ⟨k, hk, e⟩ := List.any_eq_true.mp h2
  have := List.mem_range.mp hk
  exact ⟨k, by omega, beq_iff_eq.mp e⟩
def occ (owner : Array (Option Nat)) (j : Nat) : Bool := (owner.getD j (some 0)).isNone
theorem free_cons (m : Nat) (owner : Array (Option Nat)) (f i b : Nat) : SetTable.layClean.free m owner (f + 1) i b = match (List.range (SetTable.runEnd m i + 1 - i)).find? (fun k => occ owner (i + k)) with
    | some k => some (i + k)
    | none => SetTable.layClean.free m owner f (SetTable.leap m i b).1 (SetTable.leap m i b).2 := by
  rw [SetTable.layClean.free]
  rfl
theorem free_is (m : Nat) (owner : Array (Option Nat)) : ∀ (f i b j : Nat), SetTable.layClean.free m owner f i b = some j → occ owner j = true
  | 0, i, b, j, h => by rw [SetTable.layClean.free] at h; cases h
  | f + 1, i, b, j, h => by
    rw [free_cons] at h
    cases e : (List.range (SetTable.runEnd m i + 1 - i)).find? (fun k => occ owner (i + k)) with
    | some k =>
      rw [e] at h
      have := List.find?_some e
      obtain rfl := Option.some.inj h
      exact this
    | none =>
      rw [e] at h
      exact free_is m owner f _ _ j h
theorem free_no (m : Nat) (owner : Array (Option Nat)) : ∀ (f i b : Nat), b < 32 → SetTable.layClean.free m owner f i b = none → ∀ k, k < f → occ owner (it m i k) = false
  | 0, i, b, hb, h, k, hk => absurd hk (Nat.not_lt_zero k)
  | f + 1, i, b, hb, h, k, hk => by
    rw [free_cons] at h
    cases e : (List.range (SetTable.runEnd m i + 1 - i)).find? (fun k => occ owner (i + k)) with
    | some k => rw [e] at h; cases h
    | none =>
      rw [e] at h
      have hz : b / 32 = 0 := Nat.div_eq_of_lt hb
      have el : SetTable.leap m i b = ((i * 5 + 1) % (m + 1), 0) := by
        unfold SetTable.leap
        rw [hz]
      cases k with
      | zero =>
        have := List.find?_eq_none.mp e 0 (List.mem_range.mpr (by unfold SetTable.runEnd; split <;> omega))
        rw [Nat.add_zero] at this
        show occ owner i = false
        exact Bool.not_eq_true _ ▸ this
      | succ k =>
        have h' : SetTable.layClean.free m owner f ((i * 5 + 1) % (m + 1)) 0 = none := by
          rw [el] at h
          exact h
        exact free_no m owner f _ 0 (by decide) h' k (by omega)
theorem set_perm {k : Nat} : ∀ (l : List (Option Nat)) (j : Nat), l[j]? = some none → ((l.set j (some k)).filterMap id).Perm (k :: l.filterMap id)
  | [], j, h => by cases h
  | x :: l, 0, h => by
    obtain rfl : x = none := Option.some.inj h
    exact List.Perm.refl _
  | x :: l, j + 1, h => by
    have ih := set_perm (k := k) l j h
    cases x with
    | none => exact ih
    | some y => exact (ih.cons y).trans (List.Perm.swap k y _)
structure Lay (m : Nat) (owner : Array (Option Nat)) (k : Nat) : Prop where
  sz : owner.size = m + 1
  pm : (owner.toList.filterMap id).Perm (List.range k)
theorem all_some : ∀ (l : List (Option Nat)), (∀ j, j < l.length → l[j]? ≠ some none) → (l.filterMap id).length = l.length
  | [], _ => rfl
  | none :: l, h => absurd rfl (h 0 (Nat.zero_lt_succ _))
  | some y :: l, h => congrArg Nat.succ (all_some l fun j hj => h (j + 1) (Nat.succ_lt_succ hj))
theorem occ_iff {owner : Array (Option Nat)} {j : Nat} : occ owner j = true ↔ owner.toList[j]? = some none := by
  unfold occ
  rw [Array.getElem?_toList, Array.getD_eq_getD_getElem?]
  cases e : owner[j]? with
  | none => simp
  | some x => cases x <;> simp
theorem bits_small {h : Int} (h0 : 0 ≤ h) (h1 : h < 32) : SetTable.bits h < 32 := by
  unfold SetTable.bits
  omega
theorem lay_step {m k : Nat} {owner : Array (Option Nat)} {h : Int} (hm : m = 7 ∨ m = 15 ∨ m = 31 ∨ m = 63) (L : Lay m owner k) (hk : k ≤ m) (h0 : 0 ≤ h) (h1 : h < 32) :
    ∃ owner', stepF m (some (owner, k)) h = some (owner', k + 1) ∧ Lay m owner' (k + 1) := by
  cases e : SetTable.layClean.free m owner (SetTable.turns m) (SetTable.bits h % (m + 1)) (SetTable.bits h) with
  | none =>
    exfalso
    have no := free_no m owner _ _ _ (bits_small h0 h1) e
    have len : (owner.toList.filterMap id).length = owner.toList.length := all_some _ fun j hj z => by
      rw [Array.length_toList, L.sz] at hj
      obtain ⟨c, hc, ec⟩ := it_all hm (i := SetTable.bits h % (m + 1)) (j := j) (Nat.le_of_lt_succ (Nat.mod_lt _ (Nat.succ_pos m))) (by omega)
      have := no c (by unfold SetTable.turns; omega)
      rw [ec, occ_iff.mpr z] at this
      cases this
    rw [L.pm.length_eq, List.length_range, Array.length_toList, L.sz] at len
    omega
  | some j =>
    have hj := occ_iff.mp (free_is m owner _ _ _ _ e)
    refine ⟨owner.setIfInBounds j (some k), stepF_some e, by rw [Array.size_setIfInBounds]; exact L.sz, ?_⟩
    rw [Array.toList_setIfInBounds, List.range_succ]
    exact (set_perm _ _ hj).trans ((L.pm.cons k).trans (List.perm_append_singleton k _).symm)
theorem lay_fold {m : Nat} (hm : m = 7 ∨ m = 15 ∨ m = 31 ∨ m = 63) : ∀ (hs : List Int) (k : Nat) (owner : Array (Option Nat)), Lay m owner k → (∀ h ∈ hs, 0 ≤ h ∧ h < 32) → k + hs.length ≤ m + 1 →
    ∃ owner', hs.foldl (stepF m) (some (owner, k)) = some (owner', k + hs.length) ∧ Lay m owner' (k + hs.length)
  | [], k, owner, L, _, _ => ⟨owner, rfl, L⟩
  | h :: hs, k, owner, L, hb, hn => by
    rw [List.length_cons] at hn
    obtain ⟨o1, e1, L1⟩ := lay_step hm L (by omega) (hb h List.mem_cons_self).1 (hb h List.mem_cons_self).2
    obtain ⟨o2, e2, L2⟩ := lay_fold hm hs (k + 1) o1 L1 (fun x hx => hb x (List.mem_cons_of_mem _ hx)) (by omega)
    refine ⟨o2, ?_, ?_⟩
    · rw [List.foldl_cons, e1, e2, List.length_cons]
      congr 2
      omega
    · rw [List.length_cons, show k + (hs.length + 1) = k + 1 + hs.length by omega]
      exact L2
theorem fm_congr {α β : Type} {f g : α → Option β} : ∀ {l : List α}, (∀ x ∈ l, f x = g x) → l.filterMap f = l.filterMap g
  | [], _ => rfl
  | x :: l, h => by
    rw [List.filterMap_cons, List.filterMap_cons, h x List.mem_cons_self, fm_congr fun y hy => h y (List.mem_cons_of_mem _ hy)]
theorem live_snd (l : List (Option Nat)) : ((List.range l.length).filterMap fun j => (l.getD j none).map fun x => (j, x)).map (·.2) = l.filterMap id := by
  induction l with
  | nil => rfl
  | cons x l ih =>
    rw [List.length_cons, List.range_succ_eq_map, List.filterMap_cons, List.filterMap_map]
    have e : ((List.range l.length).filterMap ((fun j => ((x :: l).getD j none).map fun y => (j, y)) ∘ Nat.succ)).map (·.2) = l.filterMap id := by
      rw [← ih, List.map_filterMap, List.map_filterMap]
      refine fm_congr fun j _ => ?_
      show Option.map _ (Option.map _ ((x :: l).getD (j + 1) none)) = _
      rw [List.getD_cons_succ, Option.map_map, Option.map_map]
      rfl
    cases x with
    | none => exact e
    | some y =>
      show y :: _ = y :: _
      rw [e]
theorem laid_ok {m finger moves : Nat} {led plain : Bool} {hs : Array Int} (hm : m = 7 ∨ m = 15 ∨ m = 31 ∨ m = 63) (hb : ∀ h ∈ hs.toList, 0 ≤ h ∧ h < 32) (hn : hs.size ≤ m) :
    ∃ t order, SetTable.laid m finger moves led plain hs = some (t, order) ∧ order.toList.Perm (List.range hs.size) ∧ t.fits hs.size = true ∧ t.mask = m ∧ t.dummies = #[] := by
  have L0 : Lay m (Array.replicate (m + 1) none) 0 := ⟨Array.size_replicate, by
    rw [Array.toList_replicate]
    have : ∀ n, (List.replicate n (none : Option Nat)).filterMap id = [] := fun n => by
      induction n with
      | zero => rfl
      | succ n ih => rw [List.replicate_succ]; exact ih
    rw [this]
    exact .refl _⟩
  obtain ⟨owner, e, L⟩ := lay_fold hm hs.toList 0 _ L0 hb (by rw [Array.length_toList]; omega)
  rw [Nat.zero_add, Array.length_toList] at e L
  have ec : SetTable.layClean m hs = some owner := by
    rw [layClean_eq, e]
    rfl
  have eg : ∀ j, owner.getD j none = owner.toList.getD j none := fun j => by
    rw [Array.getD_eq_getD_getElem?, List.getD_eq_getElem?_getD, Array.getElem?_toList]
  have el : (List.range (m + 1)).filterMap (fun j => (owner.getD j none).map fun x => (j, x)) = (List.range owner.toList.length).filterMap fun j => (owner.toList.getD j none).map fun x => (j, x) := by
    rw [Array.length_toList, L.sz]
    exact fm_congr fun j _ => by rw [eg]
  have pm : (((List.range (m + 1)).filterMap fun j => (owner.getD j none).map fun x => (j, x)).map (·.2)).Perm (List.range hs.size) := by
    rw [el, live_snd]
    exact L.pm
  have lenl : ((List.range (m + 1)).filterMap fun j => (owner.getD j none).map fun x => (j, x)).length = hs.size := by
    have := pm.length_eq
    rw [List.length_map, List.length_range] at this
    exact this
  refine ⟨{ mask := m, place := (((List.range (m + 1)).filterMap fun j => (owner.getD j none).map fun x => (j, x)).map (·.1)).toArray, dummies := #[], finger, led, moves, plain }, (((List.range (m + 1)).filterMap fun j => (owner.getD j none).map fun x => (j, x)).map (·.2)).toArray, ?_, pm, ?_, rfl, rfl⟩
  · unfold SetTable.laid
    rw [ec]
    rfl
  · unfold SetTable.fits SetTable.fill
    dsimp only
    rw [List.size_toArray, List.length_map, lenl]
    simp [hn]
end SD
end L2

namespace L2
open PySem PySem.Spec PyProof.Rows
namespace SD
/-- a set of ints, as it stands -/
structure Is (h : Heap) (a : Addr) (es : Array (Int × Value)) (ep : Nat) (t : SetTable) : Prop where
  at' : ∃ o, h.get? a = some o ∧ o.ExactSet ∧ o.data = .set es ep t
  good : ∀ e ∈ es.toList, GoodE e
  nd : (es.toList.map keyOf).Nodup
  lt : es.size < scanBound
  fit : t.fits es.size = true
theorem Is.of {w : World} {h : Heap} {a : Addr} {S : Int → Bool} {n : Nat} (R : SetR w h a S n) :
    ∃ es ep t, Is h a es ep t ∧ (∀ k, S k = true ↔ k ∈ es.toList.map keyOf) ∧ es.size = n ∧ (w.params.followText "set-order" = true ∨ t.led = true) := by
  obtain ⟨o, es, ep, t, ho, hx, hd, g, nd, hm, hb, hf, hn, _, hl⟩ := R
  exact ⟨es, ep, t, ⟨⟨o, ho, hx, hd⟩, g, nd, hb, hf⟩, hm, hn, hl⟩
theorem Is.same {h h' : Heap} {a b : Addr} {es : Array (Int × Value)} {ep : Nat} {t : SetTable} (I : Is h a es ep t) (s : Heap.SameBut b h h') (ne : a ≠ b) : Is h' a es ep t := by
  obtain ⟨⟨o, ho, r⟩, g, nd, lt, f⟩ := I
  exact ⟨⟨o, by rw [s.2 a ne]; exact ho, r⟩, g, nd, lt, f⟩
theorem Is.keep {h h' : Heap} {a : Addr} {es : Array (Int × Value)} {ep : Nat} {t : SetTable} (I : Is h a es ep t) (k : ∀ o, h.get? a = some o → h'.get? a = some o) : Is h' a es ep t := by
  obtain ⟨⟨o, ho, r⟩, g, nd, lt, f⟩ := I
  exact ⟨⟨o, k o ho, r⟩, g, nd, lt, f⟩
theorem Is.type {s : Shared} {a : Addr} {es : Array (Int × Value)} {ep : Nat} {t : SetTable} (I : Is s.heap a es ep t) : s.TypeIs (.ref a) "set" := by
  obtain ⟨⟨o, ho, hx, _⟩, _⟩ := I
  exact ⟨o, ho, hx.1⟩
section
variable {P : Program} {w : World} {A : Around} {E : Value → Shared → Prop} {s : Shared} {a : Addr} {es : Array (Int × Value)} {ep : Nat} {t : SetTable}
theorem state (I : Is s.heap a es ep t) {Q : (Array (Int × Value) × Nat × SetTable) → Shared → Prop} (h : Q (es, ep, t) s) : wpAny (model P w) A (setState a) Q E s := by
  obtain ⟨⟨o, ho, _, hd⟩, _, _, _, f⟩ := I
  exact wpAny_setState_of ho hd f h
theorem epoch (I : Is s.heap a es ep t) {Q : Nat → Shared → Prop} (h : Q ep s) : wpAny (model P w) A (setEpoch a) Q E s := by
  obtain ⟨⟨o, ho, _, hd⟩, _, _, _, f⟩ := I
  exact wpAny_setEpoch_of ho hd f h
theorem entries (I : Is s.heap a es ep t) {Q : Array (Int × Value) → Shared → Prop} (h : Q es s) : wpAny (model P w) A (setEntries a) Q E s := by
  obtain ⟨⟨o, ho, _, hd⟩, _, _, _, f⟩ := I
  exact wpAny_setEntries_of ho hd f h
theorem size (I : Is s.heap a es ep t) {Q : Nat → Shared → Prop} (h : Q es.size s) : wpAny (model P w) A (Builtin.Frozenset.sizeOf a) Q E s := by
  unfold Builtin.Frozenset.sizeOf
  exact wpAny_bind (entries I (wpAny_pure h))
theorem anySet (I : Is s.heap a es ep t) {Q : Bool → Shared → Prop} (h : Q true s) : wpAny (model P w) A (Builtin.Frozenset.isAnySet (.ref a)) Q E s := by
  unfold Builtin.Frozenset.isAnySet
  have z := I.type
  have hs := sub_set_self
  obtain ⟨hp, g, d, tk, os⟩ := s
  refine wpAny_bind (m := isInstance (.ref a) (.type "set")) (wpAny_isInstance z hs ?_)
  exact wpAny_pure h
theorem base (I : Is s.heap a es ep t) {Q : Value → Shared → Prop} (h : Q (.type "set") s) : wpAny (model P w) A (Builtin.Frozenset.baseOf a) Q E s := by
  unfold Builtin.Frozenset.baseOf
  exact wpAny_bind (wpAny_isInstance I.type sub_set_self (wpAny_pure h))
theorem not_ref {e : Int × Value} (g : GoodE e) : ∀ b, e.2 ≠ .ref b := fun b z => by
  obtain ⟨k, tk, e1, _⟩ := g
  rw [e1] at z
  cases z

theorem quiet {l : List Addr} {Q : Bool → Shared → Prop} (hl : ∀ b ∈ l, ∃ es ep t, Is s.heap b es ep t) (h : Q true s) : wpAny (model P w) A (setsQuiet l) Q E s := by
  unfold setsQuiet
  refine wpAny_bind (wpAny_forIn_list _ (fun rest (x : Option Bool × Unit) s' => s' = s ∧ x.1 = none ∧ ∀ c ∈ rest, c ∈ l) _ (fun c rest x s1 hI => ?_) (fun x s1 hI => ?_) l (none, ()) ⟨rfl, rfl, fun c hc => hc⟩)
  · obtain ⟨rfl, hx, hc⟩ := hI
    obtain ⟨es, ep, t, I⟩ := hl c (hc c List.mem_cons_self)
    refine wpAny_bind (entries I ?_)
    refine wpAny_bind (wpAny_forIn_array' _ (fun rest (x : Option Bool × Unit) s' => s' = s1 ∧ x = (none, ()) ∧ ∀ e ∈ rest, GoodE e) _ (fun e rest x s2 hJ => ?_) (fun x s2 hJ => ?_) es (none, ()) ⟨rfl, rfl, I.good⟩)
    · obtain ⟨rfl, rfl, hg⟩ := hJ
      obtain ⟨k, tk, e1, _⟩ := hg e List.mem_cons_self
      obtain ⟨e0, e2⟩ := e
      dsimp only at e1
      subst e1
      exact wpAny_pure ⟨rfl, rfl, fun y hy => hg y (List.mem_cons_of_mem _ hy)⟩
    · obtain ⟨rfl, rfl, _⟩ := hJ
      exact wpAny_pure ⟨rfl, rfl, fun y hy => hc y (List.mem_cons_of_mem _ hy)⟩
  · obtain ⟨rfl, hx, _⟩ := hI
    obtain ⟨x1, x2⟩ := x
    dsimp only at hx
    subst hx
    exact wpAny_pure h
/-- the order in which a set is gone through: any -/
theorem walk0 (I : Is s.heap a es ep t) (hl : w.params.followText "set-order" = true ∨ t.led = true) (hp : w.params.followText "set-order" = true ∨ (t.plain = true ∨ es.size ≤ 1)) {Q : Array (Int × Value) → Shared → Prop}
    (h : ∀ es' : Array (Int × Value), es'.toList.Perm es.toList → Q es' s) : wpAny (model P w) A (setWalk a) Q E s := by
  unfold setWalk
  refine wpAny_bind (state I ?_)
  dsimp only
  refine wpAny_bind (wpAny_byText ?_)
  by_cases c : w.params.followText "set-order" = true
  · refine wp_if_pos c ?_
    exact wpAny_bind (wpAny_askSetting (wpAny_pure (h _ (pick_perm _ _))))
  · refine wp_if_neg c ?_
    try refine wpAny_bind (wpAny_pure ?_)
    have hl := hl.resolve_left c
    have hp := hp.resolve_left c
    refine wp_if_neg (by
      show ¬ ((!t.plain && decide (es.size > 1)) = true)
      rcases hp with z | z
      · rw [z]; exact Bool.false_ne_true
      · rw [decide_eq_false (by omega), Bool.and_false]; exact Bool.false_ne_true) ?_
    try refine wpAny_bind (wpAny_pure ?_)
    refine wpAny_bind (wpAny_of_eq (a := ()) ?_ ?_)
    · show (if (!t.led && decide (es.size > 1)) = true then unsupported "set:maker-not-led" else pure ()) = pure ()
      rw [hl]
      rfl
    · exact wpAny_pure (h _ (List.Perm.refl _))
theorem walkN (I : Is s.heap a es ep t) (hl : w.params.followText "set-order" = true ∨ t.led = true) {others : List Addr} (ho : ∀ b ∈ others, ∃ es ep t, Is s.heap b es ep t) {Q : Array (Int × Value) → Shared → Prop}
    (h : ∀ es' : Array (Int × Value), es'.toList.Perm es.toList → Q es' s) : wpAny (model P w) A (setWalkUnseen a others none) Q E s := by
  unfold setWalkUnseen
  refine wpAny_bind (state I ?_)
  dsimp only
  refine wpAny_bind (wpAny_byText ?_)
  by_cases c : (w.params.followText "set-order" || t.led && t.plain || decide (es.size ≤ 1)) = true
  · refine wp_if_pos c (walk0 I hl ?_ h)
    rw [Bool.or_eq_true, Bool.or_eq_true, Bool.and_eq_true, decide_eq_true_eq] at c
    rcases c with (z | z) | z
    · exact .inl z
    · exact .inr (.inl z.2)
    · exact .inr (.inr z)
  · refine wp_if_neg c ?_
    refine wpAny_bind (quiet (l := a :: others) (fun b hb => ?_) ?_)
    · rcases List.mem_cons.mp hb with rfl | hb
      · exact ⟨_, _, _, I⟩
      · exact ho b hb
    · refine wp_if_neg (by simp) ?_
      refine wpAny_bind (wpAny_rule ?_)
      exact wpAny_pure (h _ (List.Perm.refl _))
theorem walkF (I : Is s.heap a es ep t) (hl : w.params.followText "set-order" = true ∨ t.led = true) {others : List Addr} (ho : ∀ b ∈ others, ∃ es ep t, Is s.heap b es ep t) {r : Addr} {S : Int → Bool} {n : Nat} (R : SetR w s.heap r S n)
    {Q : Array (Int × Value) → Shared → Prop}
    (h : ∀ (es' : Array (Int × Value)) h', es'.toList.Perm es.toList → Heap.SameBut r s.heap h' → SetR w h' r S n → Q es' { s with heap := h' }) : wpAny (model P w) A (setWalkUnseen a others (some r)) Q E s := by
  unfold setWalkUnseen
  have h0 : ∀ es' : Array (Int × Value), es'.toList.Perm es.toList → Q es' s := fun es' p => h es' s.heap p (Heap.SameBut.refl r s.heap) R
  refine wpAny_bind (state I ?_)
  dsimp only
  refine wpAny_bind (wpAny_byText ?_)
  by_cases c : (w.params.followText "set-order" || t.led && t.plain || decide (es.size ≤ 1)) = true
  · refine wp_if_pos c (walk0 I hl ?_ h0)
    rw [Bool.or_eq_true, Bool.or_eq_true, Bool.and_eq_true, decide_eq_true_eq] at c
    rcases c with (z | z) | z
    · exact .inl z
    · exact .inr (.inl z.2)
    · exact .inr (.inr z)
  · refine wp_if_neg c ?_
    refine wpAny_bind (quiet (l := a :: others) (fun b hb => ?_) ?_)
    · rcases List.mem_cons.mp hb with rfl | hb
      · exact ⟨_, _, _, I⟩
      · exact ho b hb
    · refine wp_if_neg (by simp) ?_
      refine wpAny_bind (wpAny_rule ?_)
      try dsimp only
      obtain ⟨o, er, epr, tr, hor, hx, hd, g, nd, hm, hb, hf, hn, hr, hlr⟩ := R
      refine wpAny_bind (wpAny_setState_of hor hd hf ?_)
      dsimp only
      split
      · refine wpAny_bind (wpAny_storeSet_of hor hd ?_ (fits_of_scanBound hb))
        refine wpAny_pure (h _ _ (List.Perm.refl _) (Heap.SameBut.update s.heap r _) ⟨_, er, _, _, store_at hor hd, hx, rfl, g, nd, hm, hb, hf, hn, hr, ?_⟩)
        rcases hlr with z | z
        · exact .inl z
        · rcases hl with y | y
          · exact .inl y
          · exact .inr (by rw [z, y]; rfl)
      · exact wpAny_pure (h0 _ (List.Perm.refl _))
end
end SD
end L2

namespace L2
open PySem PySem.Spec PyProof.Rows
namespace SD
section
variable {P : Program} {w : World} {A : Around} {E : Value → Shared → Prop} {s : Shared} {a : Addr} {es : Array (Int × Value)} {ep : Nat} {t : SetTable}
theorem sizeM : ∀ n, n < 32 → 5 ≤ n → (SetTable.sizeAbove ((0 + n) * 2) - 1 = 15 ∨ SetTable.sizeAbove ((0 + n) * 2) - 1 = 31 ∨ SetTable.sizeAbove ((0 + n) * 2) - 1 = 63) ∧ n ≤ SetTable.sizeAbove ((0 + n) * 2) - 1 := by decide +kernel
/-- r, empty: room for n more -/
theorem room_at {r : Addr} {n ep0 : Nat} {led : Bool} (hn : n < 32) (ho : ∃ o, s.heap.get? r = some o ∧ o.ExactSet ∧ o.data = .set #[] ep0 (.fresh 0 0 led)) {Q : Unit → Shared → Prop}
    (h : ∀ h' ep' t', Heap.SameBut r s.heap h' → (∃ o, h'.get? r = some o ∧ o.ExactSet ∧ o.data = .set #[] ep' t') → t'.place = #[] → t'.dummies = #[] → (t'.mask = 7 ∨ t'.mask = 15 ∨ t'.mask = 31 ∨ t'.mask = 63) → n ≤ t'.mask → Q () { s with heap := h' }) :
    wpAny (model P w) A (setRoomFor r n) Q E s := by
  obtain ⟨o, ho, hx, hd⟩ := ho
  have hf : (SetTable.fresh 0 0 led).fits (#[] : Array (Int × Value)).size = true := rfl
  unfold setRoomFor
  refine wpAny_bind (wpAny_setState_of ho hd hf ?_)
  unfold SetTable.roomFor
  by_cases c : n ≤ 4
  · have e : ¬ ((SetTable.fresh 0 0 led).fill + n) * 5 ≥ (SetTable.fresh 0 0 led).mask * 3 := by
      show ¬ (0 + n) * 5 ≥ 7 * 3
      omega
    rw [if_neg e]
    exact wpAny_pure (h s.heap ep0 _ (Heap.SameBut.refl r s.heap) ⟨o, ho, hx, hd⟩ rfl rfl (.inl rfl) (by show n ≤ 7; omega))
  · have e : ((SetTable.fresh 0 0 led).fill + n) * 5 ≥ (SetTable.fresh 0 0 led).mask * 3 := by
      show (0 + n) * 5 ≥ 7 * 3
      omega
    rw [if_pos e]
    obtain ⟨hm, hle⟩ := sizeM n hn (by omega)
    show wpAny _ _ (setRelay r ((0 + n) * 2)) Q E s
    unfold setRelay
    refine wpAny_bind (wpAny_setState_of ho hd hf ?_)
    dsimp only
    refine wp_if_neg (by rw [sizeLine_eq]; omega) ?_
    try refine wpAny_bind (wpAny_pure ?_)
    obtain ⟨t1, order, el, pm, f1, m1, d1⟩ := laid_ok (m := SetTable.sizeAbove ((0 + n) * 2) - 1) (finger := 0) (moves := (SetTable.fresh 0 0 led).movedTo (SetTable.sizeAbove ((0 + n) * 2) - 1)) (led := led) (plain := true) (hs := (#[] : Array Int)) (.inr hm) (fun x hx => by cases hx) (Nat.zero_le _)
    have er : (SetTable.fresh 0 0 led).relaid ((#[] : Array (Int × Value)).map (·.1)) ((0 + n) * 2) = some (t1, order) := by
      unfold SetTable.relaid
      rw [show (#[] : Array (Int × Value)).map (·.1) = #[] from by simp]
      exact el
    have oz : order = #[] := by
      have := pm.length_eq
      rw [Array.length_toList] at this
      exact Array.eq_empty_of_size_eq_zero this
    rw [er, oz]
    have pz : t1.place = #[] := by
      unfold SetTable.fits at f1
      rw [Bool.and_eq_true, beq_iff_eq] at f1
      exact Array.eq_empty_of_size_eq_zero f1.1
    refine wpAny_bind (wpAny_of_eq (a := ((#[] : Array (Int × Value)), t1)) rfl ?_)
    dsimp only
    refine wpAny_storeSet_of ho hd ?_ (Nat.zero_le _)
    exact h _ _ t1 (Heap.SameBut.update s.heap r _) ⟨_, store_at ho hd, hx, rfl⟩ pz d1 (.inr (m1 ▸ hm)) (by rw [m1]; exact hle)
theorem fit_le {t : SetTable} {n : Nat} (h : t.fits n = true) : t.place.size = n ∧ t.fill ≤ t.mask := by
  unfold SetTable.fits at h
  rw [Bool.and_eq_true, beq_iff_eq, decide_eq_true_eq] at h
  exact h
theorem fm_get {α : Type} (l : List α) : (List.range l.length).filterMap (fun i => l[i]?) = l := by
  induction l with
  | nil => rfl
  | cons x l ih =>
    rw [List.length_cons, List.range_succ_eq_map, List.filterMap_cons, List.filterMap_map]
    exact congrArg (x :: ·) ih
theorem order_perm {es : Array (Int × Value)} {order : Array Nat} (pm : order.toList.Perm (List.range es.size)) : (order.filterMap (es[·]?)).toList.Perm es.toList := by
  rw [Array.toList_filterMap]
  have := pm.filterMap (fun i => es[i]?)
  refine this.trans ?_
  have e : (List.range es.size).filterMap (fun i => es[i]?) = es.toList := by
    have := fm_get es.toList
    rw [Array.length_toList] at this
    rw [← this]
    exact fm_congr fun i _ => (Array.getElem?_toList).symm
  rw [e]
theorem hash_all : ∀ n, n < 32 → 0 ≤ hashInt (n : Nat) ∧ hashInt (n : Nat) < 32 := by decide +kernel
theorem hash_small {k : Int} (h0 : 0 ≤ k) (h1 : k < 32) : 0 ≤ hashInt k ∧ hashInt k < 32 := by
  obtain ⟨n, rfl⟩ := Int.eq_ofNat_of_zero_le h0
  exact hash_all n (by omega)
/-- a copy -/
theorem copy_at (I : Is s.heap a es ep t) (hn : es.size < 32) (hk : ∀ k ∈ es.toList.map keyOf, 0 ≤ k ∧ k < 32) {Q : Value → Shared → Prop}
    (h : ∀ h' es' ep' t', (∀ b o, s.heap.get? b = some o → h'.get? b = some o) → Is h' s.heap.objs.size es' ep' t' → es'.toList.Perm es.toList → t'.dummies = #[] → es.size ≤ t'.mask → Q (.ref s.heap.objs.size) { s with heap := h' }) :
    wpAny (model P w) A (Builtin.Frozenset.copyOf a) Q E s := by
  unfold Builtin.Frozenset.copyOf
  refine wpAny_bind (base I ?_)
  refine wpAny_bind (wpAny_newSet_of (knd := intKind P w) fun led _ => ?_)
  unfold Builtin.Frozenset.addrOf
  refine wpAny_bind (wpAny_pure ?_)
  have hlt : a < s.heap.objs.size := by
    obtain ⟨⟨o, ho, _⟩, _⟩ := I
    exact Heap.lt_size ho
  have hne : a ≠ s.heap.objs.size := Nat.ne_of_lt hlt
  have hr0 : (s.heap.push { cls := .type "set", dict := none, data := .set #[] 0 (.fresh 0 0 led) }).get? s.heap.objs.size = some { cls := .type "set", dict := none, data := .set #[] 0 (.fresh 0 0 led) } := Heap.get?_push_size _ rfl
  have k0 : ∀ b o, s.heap.get? b = some o → (s.heap.push { cls := .type "set", dict := none, data := .set #[] 0 (.fresh 0 0 led) }).get? b = some o := fun b o e => Heap.get?_push_of_some _ e
  generalize s.heap.push { cls := .type "set", dict := none, data := .set #[] 0 (.fresh 0 0 led) } = h0 at hr0 k0 ⊢
  have I0 : Is h0 a es ep t := I.keep (k0 a)
  have keep : ∀ {h'}, Heap.SameBut s.heap.objs.size h0 h' → ∀ b o, s.heap.get? b = some o → h'.get? b = some o := fun {h'} sb b o e => by
    rw [sb.2 b (Nat.ne_of_lt (Heap.lt_size e))]
    exact k0 b o e
  unfold setMerge
  refine wpAny_bind ?_
  refine wp_if_neg (by simpa using fun z : s.heap.objs.size = a => hne z.symm) ?_
  try refine wpAny_bind (wpAny_pure ?_)
  refine wpAny_bind (state (s := { s with heap := h0 }) I0 ?_)
  dsimp only
  by_cases ce : es.isEmpty = true
  · refine wp_if_pos ce ?_
    have ez : es = #[] := by simpa using ce
    subst ez
    exact wpAny_pure (wpAny_pure (h h0 #[] 0 _ k0 ⟨⟨_, hr0, ⟨rfl, rfl, rfl⟩, rfl⟩, fun e he => by simp at he, List.Pairwise.nil, by decide, rfl⟩ (.refl _) rfl (Nat.zero_le _)))
  · refine wp_if_neg ce ?_
    try refine wpAny_bind (wpAny_pure ?_)
    refine wpAny_bind (room_at (s := { s with heap := h0 }) hn ⟨_, hr0, ⟨rfl, rfl, rfl⟩, rfl⟩ fun h1 ep1 t1 sb1 ho1 p1 d1 m1 l1 => ?_)
    obtain ⟨o1, ho1, hx1, hd1⟩ := ho1
    have I1 : Is h1 a es ep t := I0.same sb1 hne
    refine wpAny_bind (wpAny_setState_of (s := { s with heap := h1 }) ho1 hd1 (by unfold SetTable.fits SetTable.fill; rw [p1, d1]; simp) ?_)
    dsimp only
    have fz : ¬ ((t1.fill != 0) = true) := by
      unfold SetTable.fill
      rw [p1, d1]
      simp
    unfold SetTable.road
    rw [if_neg fz]
    obtain ⟨fp, fl⟩ := fit_le I.fit
    by_cases cm : (t1.mask == t.mask && t.dummies.isEmpty) = true
    · rw [if_pos cm]
      rw [Bool.and_eq_true, beq_iff_eq] at cm
      have dz : t.dummies = #[] := by simpa using cm.2
      dsimp only
      refine wpAny_storeSet_of (s := { s with heap := h1 }) ho1 hd1 ?_ (fits_of_scanBound I.lt)
      refine wpAny_pure (h _ es _ _ ?_ ⟨⟨_, store_at ho1 hd1, hx1, rfl⟩, I.good, I.nd, I.lt, ?_⟩ (.refl _) dz ?_)
      · exact keep (sb1.trans (Heap.SameBut.update h1 _ _))
      · exact I.fit
      · show es.size ≤ t.mask
        rw [← cm.1]
        exact l1
    · rw [if_neg cm]
      dsimp only
      obtain ⟨t2, order, el, pm, f2, m2, d2⟩ := laid_ok (m := t1.mask) (finger := t1.finger) (moves := t1.moves) (led := t1.led && t.led) (plain := t1.plain && t.plain) (hs := es.map (·.1)) m1 (fun x hx => by
        rw [Array.toList_map, List.mem_map] at hx
        obtain ⟨e, he, rfl⟩ := hx
        obtain ⟨k, tk, e1, e2⟩ := I.good e he
        have hb := hk k (List.mem_map.mpr ⟨e, he, by unfold keyOf; rw [e1]⟩)
        rw [e2]
        exact hash_small hb.1 hb.2) (by rw [Array.size_map]; exact l1)
      rw [el]
      rw [Array.size_map] at pm f2
      have pe := order_perm pm
      have sz : (order.filterMap (es[·]?)).size = es.size := by
        have := pe.length_eq
        rwa [Array.length_toList, Array.length_toList] at this
      refine wpAny_bind (wpAny_of_eq (a := (order.filterMap (es[·]?), t2)) ?_ ?_)
      · show (if ((order.filterMap (es[·]?)).size != es.size) = true then _ else _) = _
        rw [if_neg (by rw [sz]; simp)]
      · dsimp only
        refine wpAny_storeSet_of (s := { s with heap := h1 }) ho1 hd1 ?_ (fits_of_scanBound (by rw [sz]; exact I.lt))
        refine wpAny_pure (h _ (order.filterMap (es[·]?)) _ _ ?_ ⟨⟨_, store_at ho1 hd1, hx1, rfl⟩, fun e he => I.good e (pe.mem_iff.mp he), (pe.map keyOf).nodup_iff.mpr I.nd, by rw [sz]; exact I.lt, by rw [sz]; exact f2⟩ pe d2 (by rw [m2]; exact l1))
        exact keep (sb1.trans (Heap.SameBut.update h1 _ _))
end
end SD
end L2

namespace L2
open PySem PySem.Spec PyProof.Rows
namespace SD
theorem erase_list {α : Type} (xs : Array α) (p : Nat) : (SetTable.eraseAt xs p).toList = xs.toList.eraseIdx p := by
  unfold SetTable.eraseAt
  rw [Array.toList_append, Array.toList_extract, Array.toList_extract, List.eraseIdx_eq_take_drop_succ, List.extract_eq_take_drop, List.extract_eq_take_drop, List.drop_zero, Nat.sub_zero]
  congr 1
  refine List.take_of_length_le ?_
  rw [List.length_drop, Array.length_toList]
  omega
theorem insert_size {α : Type} (xs : Array α) (p : Nat) (x : α) : (SetTable.insertAt xs p x).size = xs.size + 1 := by
  rw [← Array.length_toList, SetTable.toList_insertAt, List.length_append, List.length_cons, List.length_take, List.length_drop, Array.length_toList]
  omega
theorem drop_fit {t : SetTable} {n i : Nat} (h : t.fits n = true) (hi : i < n) : (t.drop i).fits (n - 1) = true ∧ (t.drop i).dummies.size = t.dummies.size + 1 ∧ (t.drop i).mask = t.mask := by
  obtain ⟨h1, h2⟩ := fit_le h
  have e : t.place[i]? = some (t.place[i]'(by omega)) := Array.getElem?_eq_getElem (by omega)
  unfold SetTable.drop
  rw [e]
  dsimp only
  have es : (SetTable.eraseAt t.place i).size = n - 1 := by
    rw [← Array.length_toList, erase_list, List.length_eraseIdx, Array.length_toList, if_pos (by omega), h1]
  refine ⟨?_, insert_size _ _ _, rfl⟩
  unfold SetTable.fits SetTable.fill
  dsimp only
  rw [es, insert_size]
  unfold SetTable.fill at h2
  simp
  omega
section
variable {P : Program} {w : World} {A : Around} {E : Value → Shared → Prop} {s : Shared} {a : Addr} {es : Array (Int × Value)} {ep : Nat} {t : SetTable}
theorem find_at (I : Is s.heap a es ep t) {k : Int} {tk : Tok} {Q : Option Nat → Shared → Prop}
    (h1 : ∀ j, es.toList[j]?.map keyOf = some k → Q (some j) s) (h0 : k ∉ es.toList.map keyOf → Q none s) : wpAny (model P w) A (setFind a (.int k tk) (hashInt k)) Q E s := by
  have hkey : (intKind P w).is k (.int k tk) = true := intKind_is P w k tk
  have hel : ElemsOf (intKind P w) es.toList := good_elems I.good
  unfold setFind setFindIn
  refine wpAny_bind (state I ?_)
  dsimp only
  rw [byScan_of (knd := intKind P w) rfl I.lt hel]
  refine wp_if_pos rfl ?_
  refine wpAny_bind (wpAny_rule ?_)
  obtain ⟨o, ho, _, hd⟩ := I.at'
  refine wpAny_bind (wpAny_setScan_of (knd := intKind P w) hkey ho hd I.fit hel ?_)
  cases e : List.findIdx? (fun e => (intKind P w).is k e.2) es.toList with
  | none =>
    dsimp only
    refine wpAny_pure (h0 fun z => ?_)
    obtain ⟨x, hx, q⟩ := (good_mem (P := P) (w := w) I.good k).1 z
    have := List.findIdx?_eq_none_iff.mp e x hx
    rw [q] at this
    cases this
  | some j =>
    dsimp only
    obtain ⟨hj, pj, _⟩ := List.findIdx?_eq_some_iff_getElem.mp e
    rw [Nat.zero_add]
    refine wpAny_pure (h1 j ?_)
    rw [List.getElem?_eq_getElem hj]
    exact congrArg some ((good_is (P := P) (w := w) (I.good _ (List.getElem_mem hj)) k).1 pj)
theorem erase_mapA {α β : Type} (f : α → β) : ∀ (l : List α) (j : Nat), (l.eraseIdx j).map f = (l.map f).eraseIdx j
  | [], _ => rfl
  | _ :: _, 0 => rfl
  | x :: l, j + 1 => congrArg (f x :: ·) (erase_mapA f l j)
/-- a key less -/
theorem discard_at (I : Is s.heap a es ep t) {k : Int} {tk : Tok} {Q : Bool → Shared → Prop}
    (h : ∀ b h' es' ep' t', Heap.SameBut a s.heap h' → Is h' a es' ep' t' → (es'.toList.map keyOf).Perm ((es.toList.map keyOf).erase k) → t'.dummies.size ≤ t.dummies.size + 1 → t'.mask = t.mask → Q b { s with heap := h' }) :
    wpAny (model P w) A (setDiscardHashed a (.int k tk) (hashInt k)) Q E s := by
  unfold setDiscardHashed
  refine wpAny_bind (find_at I (fun j hj => ?_) fun hk => ?_)
  · dsimp only
    refine wpAny_bind (state I ?_)
    dsimp only
    obtain ⟨o, ho, hx, hd⟩ := I.at'
    have hjl : j < es.toList.length := by
      rcases Nat.lt_or_ge j es.toList.length with c | c
      · exact c
      · rw [List.getElem?_eq_none c] at hj
        cases hj
    have hsz : (SetTable.eraseAt es j).size = es.size - 1 := by
      rw [← Array.length_toList, erase_list, List.length_eraseIdx, if_pos hjl, Array.length_toList]
    refine wpAny_bind (wpAny_storeSet_of ho hd ?_ (fits_of_scanBound (by rw [hsz]; have := I.lt; omega)))
    refine wpAny_bind (wpAny_point (wpAny_pure ?_))
    rw [Array.length_toList] at hjl
    obtain ⟨f1, f2, f3⟩ := drop_fit I.fit hjl
    have ek : (SetTable.eraseAt es j).toList.map keyOf = (es.toList.map keyOf).eraseIdx j := by
      rw [erase_list]
      exact erase_mapA keyOf es.toList j
    have ejk : (es.toList.map keyOf)[j]? = some k := by rw [List.getElem?_map]; exact hj
    have pk : ((es.toList.map keyOf).eraseIdx j).Perm ((es.toList.map keyOf).erase k) := by
      have p1 := erase_perm _ j k ejk
      have p2 := List.perm_cons_erase (List.mem_of_getElem? ejk)
      exact (p1.trans p2).cons_inv
    refine h _ _ (SetTable.eraseAt es j) _ _ (Heap.SameBut.update s.heap a _) ⟨⟨_, store_at ho hd, hx, rfl⟩, fun e he => ?_, ?_, ?_, ?_⟩ (by rw [ek]; exact pk) (Nat.le_of_eq f2) f3
    · rw [erase_list] at he
      exact I.good e (List.mem_of_mem_eraseIdx he)
    · rw [ek]
      exact pk.nodup_iff.mpr (I.nd.erase k)
    · rw [hsz]
      have := I.lt
      omega
    · rw [hsz]
      exact f1
  · exact wpAny_pure (h _ s.heap es ep t (Heap.SameBut.refl a s.heap) I (by rw [List.erase_of_not_mem hk]) (Nat.le_succ _) rfl)
theorem unch (I : Is s.heap a es ep t) {id : String} {Q : Unit → Shared → Prop} (h : Q () s) : wpAny (model P w) A (Builtin.Frozenset.unchanged id a ep) Q E s := by
  unfold Builtin.Frozenset.unchanged
  refine wpAny_bind (epoch I ?_)
  refine wp_if_neg (by simp) ?_
  exact wpAny_pure h
theorem foldErase_mem : ∀ (ks : List Int) (l : List Int) (k : Int), l.Nodup → (k ∈ ks.foldl List.erase l ↔ k ∈ l ∧ k ∉ ks)
  | [], l, k, _ => ⟨fun h => ⟨h, List.not_mem_nil⟩, fun h => h.1⟩
  | x :: ks, l, k, nd => by
    rw [List.foldl_cons, foldErase_mem ks (l.erase x) k (nd.erase x), nd.mem_erase_iff, List.mem_cons]
    constructor
    · rintro ⟨⟨h1, h2⟩, h3⟩
      exact ⟨h2, fun z => z.elim h1 h3⟩
    · rintro ⟨h1, h2⟩
      exact ⟨⟨fun z => h2 (.inl z), h1⟩, fun z => h2 (.inr z)⟩
/-- the keys of b taken away from a -/
theorem update_at {b : Addr} {eb : Array (Int × Value)} {epb : Nat} {tb : SetTable} (I : Is s.heap a es ep t) (J : Is s.heap b eb epb tb) (hne : a ≠ b) (hl : w.params.followText "set-order" = true ∨ tb.led = true)
    (h8 : ¬ eb.size / 8 > es.size) (hd : t.dummies.size + eb.size ≤ t.mask / 4) {Q : Unit → Shared → Prop}
    (h : ∀ h' es' ep' t', Heap.SameBut a s.heap h' → Is h' a es' ep' t' → (∀ k, k ∈ es'.toList.map keyOf ↔ k ∈ es.toList.map keyOf ∧ k ∉ eb.toList.map keyOf) → Q () { s with heap := h' }) :
    wpAny (model P w) A (Builtin.Frozenset.differenceUpdate id0 a (.ref b)) Q E s := by
  unfold Builtin.Frozenset.differenceUpdate
  refine wp_if_neg (by simpa using fun z : b = a => hne z.symm) ?_
  try refine wpAny_bind (wpAny_pure ?_)
  refine wpAny_bind (anySet J ?_)
  dsimp only
  refine wp_if_pos rfl ?_
  unfold Builtin.Frozenset.addrOf
  refine wpAny_bind (wpAny_pure ?_)
  refine wpAny_bind (size J ?_)
  refine wpAny_bind (size I ?_)
  refine wp_if_neg h8 ?_
  try refine wpAny_bind (wpAny_pure ?_)
  refine wpAny_bind (epoch J ?_)
  refine wpAny_bind (m := holding [Value.ref b] _) (wpAny_holding ?_)
  refine wpAny_bind (walkN J hl (fun c hc => ?_) fun ew pw => ?_)
  · obtain rfl := List.mem_singleton.mp hc
    exact ⟨_, _, _, I⟩
  refine wpAny_bind (wpAny_forIn_array' _ (fun rest _ s' => ∃ done h' es' ep' t', ew.toList = done ++ rest ∧ s' = { s with heap := h' } ∧ Heap.SameBut a s.heap h' ∧ Is h' a es' ep' t' ∧
      (es'.toList.map keyOf).Perm ((done.map keyOf).foldl List.erase (es.toList.map keyOf)) ∧ t'.dummies.size ≤ t.dummies.size + done.length ∧ t'.mask = t.mask)
    _ (fun x rest u s1 hI => ?_) (fun u s1 hI => ?_) ew PUnit.unit
    ⟨[], s.heap, es, ep, t, rfl, rfl, Heap.SameBut.refl a s.heap, I, .refl _, Nat.le_add_right _ _, rfl⟩)
  · obtain ⟨done, h1, e1, ep1, t1, esplit, rfl, sb, I1, pm, dm, mk⟩ := hI
    have hx : x ∈ eb.toList := pw.mem_iff.mp (by rw [esplit]; exact List.mem_append_right _ List.mem_cons_self)
    obtain ⟨k, tk, e2, e3⟩ := J.good x hx
    obtain ⟨x1, x2⟩ := x
    dsimp only at e2 e3
    subst e2
    subst e3
    dsimp only
    refine wpAny_bind (m := holding [Value.int k tk] _) (wpAny_holding (discard_at (s := { s with heap := h1 }) I1 fun bb h2 e4 ep4 t4 sb2 I2 pm2 dm2 mk2 => ?_))
    have J2 : Is h2 b eb epb tb := (J.same sb hne.symm).same sb2 hne.symm
    refine wpAny_bind (unch (s := { s with heap := h2 }) J2 ?_)
    refine wpAny_pure ⟨done ++ [(hashInt k, Value.int k tk)], h2, e4, ep4, t4, by rw [esplit, List.append_assoc]; rfl, rfl, sb.trans sb2, I2, ?_, ?_, mk2.trans mk⟩
    · rw [List.map_append, List.foldl_append]
      exact pm2.trans (pm.erase k)
    · rw [List.length_append, List.length_singleton]
      omega
  · obtain ⟨done, h1, e1, ep1, t1, esplit, rfl, sb, I1, pm, dm, mk⟩ := hI
    rw [List.append_nil] at esplit
    rw [← esplit] at pm dm
    try refine wpAny_pure ?_
    unfold setTidy
    refine wpAny_bind (state (s := { s with heap := h1 }) I1 ?_)
    dsimp only
    rw [pw.length_eq, Array.length_toList] at dm
    refine wp_if_neg (by unfold SetTable.tooManyDummies; rw [decide_eq_true_eq, mk]; omega) ?_
    refine wpAny_pure (h h1 e1 ep1 t1 sb I1 fun k => ?_)
    rw [pm.mem_iff, foldErase_mem _ _ _ I.nd, (pw.map keyOf).mem_iff]
end
end SD
end L2

namespace L2
open PySem PySem.Spec PyProof.Rows
namespace SD
section
variable {P : Program} {w : World} {A : Around} {E : Value → Shared → Prop} {s : Shared} {a b : Addr} {S T : Int → Bool} {n m : Nat}
theorem dec_t {l : List Int} {k : Int} {T : Int → Bool} (h : T k = true) (j : Int) : (decide (j ∈ l ++ [k]) && !T j) = (decide (j ∈ l) && !T j) := by
  by_cases e : j = k
  · rw [e, h, Bool.not_true, Bool.and_false, Bool.and_false]
  · congr 1
    simp [e]
theorem dec_f {l : List Int} {k : Int} {T : Int → Bool} (h : T k = false) (j : Int) : (decide (j ∈ l ++ [k]) && !T j) = ((decide (j ∈ l) && !T j) || decide (j = k)) := by
  by_cases e : j = k
  · rw [e, h]
    simp
  · simp [e]
/-- a new set of the keys of a that are not b's -/
def Diff (h0 : Heap) (S T : Int → Bool) (r : Addr) (h' : Heap) : Prop :=
  (∀ b o, h0.get? b = some o → h'.get? b = some o) ∧ ∃ es ep t, Is h' r es ep t ∧ ∀ k, k ∈ es.toList.map keyOf ↔ S k = true ∧ T k = false
theorem diff_at {id0 : String} (R : SetR w s.heap a S n) (R2 : SetR w s.heap b T m) (hne : a ≠ b) (hn : n < 32) (hk : ∀ k, S k = true → 0 ≤ k ∧ k < 32) {Q : Value → Shared → Prop}
    (h : ∀ h', Diff s.heap S T s.heap.objs.size h' → Q (.ref s.heap.objs.size) { s with heap := h' }) : wpAny (model P w) A (Builtin.Frozenset.difference id0 a (.ref b)) Q E s := by
  obtain ⟨es, ep, t, I, hS, hsz, hl⟩ := Is.of R
  obtain ⟨eb, epb, tb, J, hT, hszb, hlb⟩ := Is.of R2
  have lta : a < s.heap.objs.size := R.lt
  have ltb : b < s.heap.objs.size := R2.lt
  unfold Builtin.Frozenset.difference
  refine wpAny_bind (anySet J ?_)
  refine wp_if_neg (by simp) ?_
  try refine wpAny_bind (wpAny_pure ?_)
  refine wp_if_neg (by simp) ?_
  refine wp_if_pos rfl ?_
  refine wpAny_bind (size J ?_)
  refine wpAny_bind (size I ?_)
  by_cases c : es.size / 4 > eb.size
  · refine wp_if_pos c ?_
    refine wpAny_bind (wpAny_rule ?_)
    refine wpAny_bind (copy_at I (by omega) (fun k hkk => hk k ((hS k).mpr hkk)) fun h1 e1 ep1 t1 k1 I1 pm1 d1 m1 => ?_)
    refine wpAny_bind (wpAny_pure ?_)
    have J1 : Is h1 b eb epb tb := J.keep (k1 b)
    have z1 : e1.size = es.size := by
      have := pm1.length_eq
      rwa [Array.length_toList, Array.length_toList] at this
    refine wpAny_bind (wpAny_holding (update_at (s := { s with heap := h1 }) I1 J1 (Nat.ne_of_gt ltb) hlb (by rw [z1]; omega) (by rw [d1]; show 0 + _ ≤ _; omega) fun h2 e2 ep2 t2 sb2 I2 mem2 => ?_))
    refine wpAny_pure (h h2 ⟨fun c o e => ?_, e2, ep2, t2, I2, fun k => ?_⟩)
    · rw [sb2.2 c (Nat.ne_of_lt (Heap.lt_size e))]
      exact k1 c o e
    · rw [mem2 k, (pm1.map keyOf).mem_iff, ← hS k, ← hT k, Bool.not_eq_true]
  · refine wp_if_neg c ?_
    refine wpAny_bind (base I ?_)
    refine wpAny_bind ?_
    unfold newSet
    refine wpAny_bind (wpAny_byText ?_)
    try dsimp only
    simp only [newObj]
    refine wpAny_bind (wpAny_alloc (wpAny_pure ?_))
    have R0 := setR_fresh (h := s.heap) w
    have k0 : ∀ b o, s.heap.get? b = some o → (s.heap.push { cls := .type "set", dict := none, data := .set #[] 0 (.fresh 0 0 (!w.params.followText "set-order")) }).get? b = some o := fun b o e => Heap.get?_push_of_some _ e
    revert R0 k0
    show (SetR w (s.heap.push { cls := .type "set", dict := none, data := .set #[] 0 (.fresh 0 0 (!w.params.followText "set-order")) }) s.heap.objs.size (fun _ => false) 0 → _ → wpAny _ _ _ _ _ { s with heap := s.heap.push { cls := .type "set", dict := none, data := .set #[] 0 (.fresh 0 0 (!w.params.followText "set-order")) } })
    generalize s.heap.push { cls := .type "set", dict := none, data := .set #[] 0 (.fresh 0 0 (!w.params.followText "set-order")) } = h0
    intro R0 k0
    refine wpAny_bind (wpAny_pure ?_)
    have I0 : Is h0 a es ep t := I.keep (k0 a)
    have J0 : SetR w h0 b T m := R2.at (k0 b)
    refine wpAny_bind (epoch (s := { s with heap := h0 }) I0 ?_)
    refine wpAny_bind (wpAny_holding ?_)
    refine wpAny_bind ?_
    refine wp_if_pos (by trivial) ?_
    refine walkF (s := { s with heap := h0 }) I0 hl (fun c hc => ?_) R0 fun ew h1 pw sb1 R1 => ?_
    · rcases List.mem_cons.mp hc with rfl | hc
      · obtain ⟨x1, x2, x3, x4, _⟩ := Is.of J0
        exact ⟨x1, x2, x3, x4⟩
      · obtain rfl := List.mem_singleton.mp hc
        obtain ⟨x1, x2, x3, x4, _⟩ := Is.of R0
        exact ⟨x1, x2, x3, x4⟩
    refine wpAny_bind (wpAny_forIn_array' _ (fun rest _ s' => ∃ done h' c, ew.toList = done ++ rest ∧ s' = { s with heap := h' } ∧ Heap.SameBut s.heap.objs.size h0 h' ∧ c ≤ done.length ∧
      SetR w h' s.heap.objs.size (fun k => decide (k ∈ done.map keyOf) && !T k) c) _ (fun x rest u s1 hI => ?_) (fun u s1 hI => ?_) ew PUnit.unit ⟨[], h1, 0, rfl, rfl, sb1, Nat.le_refl _, R1.congr fun k => by simp⟩)
    · obtain ⟨done, h2, c2, esplit, rfl, sb2, lc, R3⟩ := hI
      have hx : x ∈ es.toList := pw.mem_iff.mp (by rw [esplit]; exact List.mem_append_right _ List.mem_cons_self)
      have hlen : done.length < es.size := by
        have := pw.length_eq
        rw [esplit, List.length_append, List.length_cons] at this
        have l2 : es.toList.length = es.size := Array.length_toList
        omega
      obtain ⟨k, tk, e2, e3⟩ := I.good x hx
      obtain ⟨x1, x2⟩ := x
      dsimp only at e2 e3
      subst e2
      subst e3
      dsimp only
      have I2 : Is h2 a es ep t := I0.same sb2 (Nat.ne_of_lt lta)
      have J2 : SetR w h2 b T m := J0.at fun o e => by rw [sb2.2 b (Nat.ne_of_lt ltb)]; exact e
      have sp : (done ++ [(hashInt k, Value.int k tk)]).map keyOf = done.map keyOf ++ [k] := by rw [List.map_append]; rfl
      refine wpAny_bind (wpAny_holding ?_)
      refine wp_if_pos (by trivial) ?_
      refine wpAny_bind (wpAny_setFind_of (s := { s with heap := h2 }) (knd := intKind P w) (intKind_is P w k tk) rfl J2.setOf fun r hr => ?_)
      try refine wpAny_bind (wpAny_pure ?_)
      cases hTk : T k with
      | true =>
        rw [hTk] at hr
        refine wp_if_neg (by rw [hr]; simp) ?_
        refine wpAny_pure ?_
        refine wpAny_bind (unch (s := { s with heap := h2 }) I2 ?_)
        refine wpAny_pure ⟨done ++ [(hashInt k, Value.int k tk)], h2, c2, by rw [esplit, List.append_assoc]; rfl, rfl, sb2, by rw [List.length_append]; omega, R3.congr fun j => ?_⟩
        rw [sp]
        exact dec_t hTk j
      | false =>
        rw [hTk] at hr
        refine wp_if_pos (by rw [hr]; rfl) ?_
        refine wpAny_bind (setR_add_hashed (s := { s with heap := h2 }) (P := P) R3 (by unfold scanBound; omega) fun h3 sb3 R4 => ?_)
        refine wpAny_pure ?_
        refine wpAny_bind (unch (s := { s with heap := h3 }) (I2.same sb3 (Nat.ne_of_lt lta)) ?_)
        refine wpAny_pure ⟨done ++ [(hashInt k, Value.int k tk)], h3, _, by rw [esplit, List.append_assoc]; rfl, rfl, sb2.trans sb3, ?_, R4.congr fun j => ?_⟩
        · rw [List.length_append, List.length_singleton]
          split <;> omega
        · rw [sp]
          exact dec_f hTk j
    · obtain ⟨done, h2, c2, esplit, rfl, sb2, lc, R3⟩ := hI
      rw [List.append_nil] at esplit
      rw [← esplit] at R3
      refine wpAny_pure (wpAny_pure (h h2 ⟨fun c o e => ?_, ?_⟩))
      · rw [sb2.2 c (Nat.ne_of_lt (Heap.lt_size e))]
        exact k0 c o e
      · obtain ⟨e4, ep4, t4, I4, m4, _⟩ := Is.of R3
        refine ⟨e4, ep4, t4, I4, fun k => ?_⟩
        rw [← m4 k, Bool.and_eq_true, decide_eq_true_eq, (pw.map keyOf).mem_iff, ← hS k, Bool.not_eq_true']
/-- a - b -/
theorem entry_sub : entryFor table "set.__sub__" = some Builtin.«frozenset.__sub__» :=
  entryFor_alias (id' := "frozenset.__sub__") (by kernel_rfl) rfl (by decide +kernel) (by kernel_rfl)
theorem sub_at (R : SetR w s.heap a S n) (R2 : SetR w s.heap b T m) (hne : a ≠ b) (hn : n < 32) (hk : ∀ k, S k = true → 0 ≤ k ∧ k < 32) {Q : Value → Shared → Prop}
    (h : ∀ h', Diff s.heap S T s.heap.objs.size h' → Q (.ref s.heap.objs.size) { s with heap := h' }) : wpAny (model P w) A (binaryOp .Sub (.ref a) (.ref b)) Q E s := by
  obtain ⟨es, ep, t, I, _⟩ := Is.of R
  obtain ⟨eb, epb, tb, J, _⟩ := Is.of R2
  refine wpAny_binaryOp_same (T := "set") (op := .Sub) I.type J.type PySem.F.fills_set_sub PySem.F.slot_set_sub ?_
  refine wpAny_call_entry PySem.F.slot_set_sub I.type entry_sub ?_ (PySem.F.args_set_sub_2 _ _)
  show wpAny _ _ (Builtin.Frozenset.slot1 "__sub__" ⟨[.ref a, .ref b], []⟩ >>= _) _ _ s
  unfold Builtin.Frozenset.slot1 slotArgs
  refine wpAny_bind (m := (do
    let (self, [x]) ← (pure (Value.ref a, [Value.ref b]) : Sem (Value × List Value)) | unsupported "internal:set-binding"
    return (self, x))) (wpAny_bind (wpAny_pure (wpAny_pure ?_)))
  refine wpAny_bind ?_
  refine wpAny_bind (anySet I ?_)
  refine anySet J ?_
  refine wp_if_neg (by simp) ?_
  try refine wpAny_bind (wpAny_pure ?_)
  refine wpAny_bind (diff_at R R2 hne hn hk fun h' d => ?_)
  exact wpAny_pure ⟨_, rfl, (fun z => nomatch z), h h' d⟩
end
end SD
end L2

namespace L2
open PySem PySem.Spec PyProof.Rows
namespace SD
/-- a new empty set, as the maker leaves it -/
def e0 (w : World) : Obj := { cls := .type "set", dict := none, data := .set #[] 0 (.fresh 0 0 (!w.params.followText "set-order")) }
section
variable {P : Program} {w : World} {A : Around} {E : Value → Shared → Prop} {s : Shared}
set_option maxHeartbeats 3200000 in
/-- set(xs), xs a list of ints: as a set that can be gone through -/
theorem set_of_list {l : Addr} {items : Array Value} (ns : List Int) {Q : Value → Shared → Prop} (hh : A.handled = none) (hl : s.heap.IsList l items) (hit : IntsAre items.toList ns) (hb : ns.length + 1 < scanBound)
    (h : ∀ (h' : Heap) (tk c : Nat), SetR w h' s.heap.objs.size (fun j => decide (j ∈ ns)) c → c ≤ ns.length → (∀ b o, s.heap.get? b = some o → h'.get? b = some o) → Q (.ref s.heap.objs.size) { s with heap := h', toks := tk }) :
    wpAny (model P w) A (call (.type "set") [.ref l]) Q E s := by
  have sz : items.size = ns.length := (Array.length_toList (xs := items)).symm.trans (IntsAre.length hit)
  have V : ∀ (i : Nat) (v : Value), items[i]? = some v → ∃ k t, ns[i]? = some k ∧ v = .int k t := fun i v hv => by
    have hi : i < ns.length := sz ▸ (Array.getElem?_eq_some_iff.mp hv).1
    obtain ⟨t, e⟩ := IntsAre.int_at hit i v (by rw [Array.getElem?_toList]; exact hv)
    exact ⟨ns[i], t, List.getElem?_eq_getElem hi, by rw [e, List.getD_eq_getElem?_getD, List.getElem?_eq_getElem hi]; rfl⟩
  obtain ⟨_, _, mro⟩ := PySem.F.called_set.mro
  have made := PySem.F.called_set.made; have sub := PySem.F.called_set.sub
  refine wpAny_call (codeAny_of_tree (show wpAny _ _ (callAny (.type "set") _) _ _ _ from ?_))
  refine wpAny_pure ⟨Code.quiet_builtin _ (by decide +kernel), codeAny_builtin PySem.F.entry_type_call ?_⟩
  rw [Around.under_plain (weight_type_call_type "set" [.ref l] []) rfl]
  have nt := PySem.F.called_set.notType; have cc := PySem.F.called_set.canCreate; have tc := PySem.F.typeCall_set_1 (.ref l)
  repeat (any_goals (first | assumption | wp_step))
  have at0 : (s.heap.push (e0 w)).get? s.heap.objs.size = some (e0 w) := Heap.get?_push_size _ rfl
  have keep0 : ∀ b o, s.heap.get? b = some o → (s.heap.push (e0 w)).get? b = some o := fun b o e => Heap.get?_push_of_some _ e
  refine codeAny_mono (code_set_led1 (.ref l) (E := E) (Q₁ := fun ob s₁ => ob = .ref s.heap.objs.size ∧ s₁ = { s with heap := s.heap.push (e0 w) }) ⟨rfl, rfl⟩) fun r s₁ hr => ?_
  match r, hr with
  | .error e, hr => exact hr
  | .ok (.ret ob), hr =>
    obtain ⟨rfl, rfl⟩ := hr
    have ty : Shared.TypeIs { s with heap := s.heap.push (e0 w) } (.ref s.heap.objs.size) "set" := ⟨_, at0, rfl⟩
    have il := PySem.F.called_set.init.lookup; have ib := PySem.F.called_set.init.bind (.ref s.heap.objs.size)
    repeat (any_goals (first | assumption | wp_step))
    refine codeAny_mono (codeAny_call_builtin (R := wants (fun r s₂ => r = .none ∧ ∃ h' tk c, s₂ = { s with heap := h', toks := tk } ∧ SetR w h' s.heap.objs.size (fun j => decide (j ∈ ns)) c ∧ c ≤ ns.length ∧ ∀ b o, s.heap.get? b = some o → h'.get? b = some o) E)
      PySem.F.called_set.init.plain PySem.F.entry_set_init (check_set_init_1 ty ?_)) fun r₂ s₂ hr₂ => ?_
    · obtain ⟨⟨oc, od, oda, osl⟩, hol, hcl, nl, hdl⟩ := hl
      simp only at hcl hdl
      subst hcl; subst hdl
      have ol' := keep0 _ _ hol
      have s1 := PySem.F.sub_list_set; have s2 := PySem.F.sub_list_frozenset
      have nd : (Value.type "list" == Value.type "dict") = false := by decide
      have isl : (s.heap.push (e0 w)).IsList l items := ⟨_, ol', rfl, nl, rfl⟩
      have lS : l < s.heap.objs.size := Heap.lt_size hol
      have zz : (s.heap.push (e0 w)).objs.size = s.heap.objs.size + 1 := Heap.size_push ..
      unfold Builtin.«set.__init__» noKeywords Builtin.Frozenset.updateFrom
      generalize hPI : pyIter = PI
      wp_walk
      subst hPI
      refine wpAny_pyIter_list isl (wpAny_bind (wpAny_runValue ?_))
      have h3 : A.in1.in1.in1.handled = none := by simp [hh]
      have neI : l ≠ (s.heap.push (e0 w)).objs.size := by rw [zz]; exact Nat.ne_of_lt (Nat.lt_succ_of_lt lS)
      refine set_update_ints ((Walks.list h3 _ l neI items).toS) s.heap.objs.size (by rw [zz]; simpa using fun z : s.heap.objs.size = l => Nat.ne_of_gt lS z) ns sz hb V (items.size - 0) 0 _ (by omega) (Nat.zero_le _) ⟨⟨_, Heap.get?_push_size _ rfl, rfl, rfl⟩, isl.push _⟩
        ⟨0, Nat.le_refl 0, setR_new_at (Heap.get?_push_of_some _ at0)⟩ fun s' c' hm lc hS' => ?_
      obtain ⟨h', g2, d', tk', os'⟩ := s'
      obtain rfl : g2 = s.gens := hm.gens
      obtain rfl : d' = s.drawn := hm.drawn
      obtain rfl : os' = s.os := hm.os
      refine (show wpAny _ _ _ _ _ _ from wpAny_pure ?_)
      refine (show wpAny _ _ (ret Value.none) _ _ _ from wpAny_pure ⟨rfl, h', tk', c', rfl, hS', by omega, fun b o e => ?_⟩)
      have hb0 : b < s.heap.objs.size := Heap.lt_size e
      refine hm.heap b o ?_ (Heap.get?_push_of_some _ (keep0 b o e))
      rw [zz]
      simpa using ⟨Nat.ne_of_lt hb0, Nat.ne_of_lt (Nat.lt_succ_of_lt hb0)⟩
    · match r₂, hr₂ with
      | .error e, hr₂ => exact hr₂
      | .ok (.ret r), hr₂ =>
        obtain ⟨rfl, h', tk, c', rfl, hS', hc', hk'⟩ := hr₂
        repeat (any_goals (first | assumption | wp_step))
        exact h _ _ _ hS' hc' hk'
      | .ok .next, hr₂ => exact hr₂.elim
      | .ok .brk, hr₂ => exact hr₂.elim
      | .ok .cont, hr₂ => exact hr₂.elim
  | .ok .next, hr => exact hr.elim
  | .ok .brk, hr => exact hr.elim
  | .ok .cont, hr => exact hr.elim
end
end SD
end L2

namespace L2
open PySem PySem.Spec PyProof.Rows
namespace SD
theorem pigeon {α : Type} [DecidableEq α] : ∀ (l m : List α), l.Nodup → (∀ x ∈ l, x ∈ m) → l.length ≤ m.length
  | [], _, _, _ => Nat.zero_le _
  | x :: l, m, nd, hs => by
    obtain ⟨n1, n2⟩ := List.nodup_cons.mp nd
    have hx := hs x List.mem_cons_self
    have ih := pigeon l (m.erase x) n2 fun y hy => (List.mem_erase_of_ne fun e => n1 (by rw [← e]; exact hy)).mpr (hs y (List.mem_cons_of_mem _ hy))
    have e := List.length_erase_of_mem hx
    have hp := List.length_pos_of_mem hx
    rw [List.length_cons]
    omega
theorem same_len {α : Type} [DecidableEq α] {l m : List α} (nl : l.Nodup) (nm : m.Nodup) (h : ∀ x, x ∈ l ↔ x ∈ m) : l.length = m.length :=
  Nat.le_antisymm (pigeon l m nl fun x hx => (h x).mp hx) (pigeon m l nm fun x hx => (h x).mpr hx)
section
variable {X : Cx}
/-- len(set(xs)): as many as there are different ones -/
def tLenSet (K : PySem.W.Frag) (ta : TE) : TE := fun σ H Q => ta σ H fun x H1 => ∃ (l : Addr) (ns : List Int), x = V.ref l ∧ SqL K H1 l (ns.map V.int) ∧ ns.length < 64 ∧
  ∀ L : List Int, L.Nodup → (∀ k, k ∈ L ↔ k ∈ ns) → Q (.int L.length) H1
/-- len(set(xs) - set(ys)) -/
def tLenSub (K : PySem.W.Frag) (ta tb : TE) : TE := fun σ H Q => ta σ H fun x H1 => ∃ (l : Addr) (ns : List Int), x = V.ref l ∧ SqL K H1 l (ns.map V.int) ∧ ns.length < 32 ∧ (∀ k ∈ ns, 0 ≤ k ∧ k < 32) ∧
  tb σ H1 fun y H2 => ∃ (l2 : Addr) (ms : List Int), y = V.ref l2 ∧ SqL K H2 l2 (ms.map V.int) ∧ ms.length < 64 ∧ ∀ L : List Int, L.Nodup → (∀ k, k ∈ L ↔ k ∈ ns ∧ k ∉ ms) → Q (.int L.length) H2
theorem pe_lenSetD {a : Expr} {ta : TE} {p p2 q pos : Pos} (hc : X.calm = true) (hg : Gl X "len") (hm : X.mg "len" = none) (hg2 : Gl X "set") (hm2 : X.mg "set" = none) (ha : PE X a ta)
    (na : starEach [a] X.env = (false, eval a X.env) :: starEach [] X.env := by rfl) : PE X (.Call (.Name "len" p) [.Call (.Name "set" p2) [a] [] q] [] pos) (tLenSet X.K ta) := by
  refine ⟨fun pins s σ H Q I h => ?_⟩
  refine Call_ (ld_blt I hg hm PySem.boot_len (callWith_builtin1 (args_cons ?_ rfl) rfl rfl))
  refine Call_ (ld_blt I hg2 hm2 PyProof.Rows.boot_set (callWith_type1 (args_cons (thn (ha.run pins s σ H _ I h) fun v s1 ⟨x, H1, I1, r1, q1⟩ => args_nil ?_) na) na rfl))
  obtain ⟨l, ns, rfl, hq, h1, q1⟩ := q1
  cases r1
  obtain ⟨its, r, pl, hz⟩ := I1.list hq
  refine set_of_list ns (I1.ok.hd hc) pl.isList (by simpa using r.ints) (by unfold scanBound; omega) fun h' tk c R hcn hk => args_nil ?_
  obtain ⟨es, ep, t, J, hS, hsz, _⟩ := Is.of R
  obtain ⟨o, ho, hx, hd⟩ := J.at'
  have I2 : Inv X pins σ H1 { s1 with heap := h', toks := tk } := I1.kept hk
  refine call_len_set ho hx hd J.fit (by omega) ⟨.int (es.toList.map keyOf).length, H1, I2.tok _, ⟨_, by rw [List.length_map, Array.length_toList]⟩, q1 _ J.nd fun k => ?_⟩
  rw [← hS k, decide_eq_true_eq]
theorem pe_lenSub {a b : Expr} {ta tb : TE} {p p2 p3 q q3 pb pos : Pos} (hc : X.calm = true) (hg : Gl X "len") (hm : X.mg "len" = none) (hg2 : Gl X "set") (hm2 : X.mg "set" = none) (ha : PE X a ta) (hb : PE X b tb)
    (na : starEach [a] X.env = (false, eval a X.env) :: starEach [] X.env := by rfl) (nb : starEach [b] X.env = (false, eval b X.env) :: starEach [] X.env := by rfl) :
    PE X (.Call (.Name "len" p) [.BinOp (.Call (.Name "set" p2) [a] [] q) .Sub (.Call (.Name "set" p3) [b] [] q3) pb] [] pos) (tLenSub X.K ta tb) := by
  refine ⟨fun pins s σ H Q I h => ?_⟩
  refine Call_ (ld_blt I hg hm PySem.boot_len (callWith_builtin1 (args_cons (wpAny_BinOp ?_) rfl) rfl rfl))
  refine Call_ (ld_blt I hg2 hm2 PyProof.Rows.boot_set (callWith_type1 (args_cons (thn (ha.run pins s σ H _ I h) fun v s1 ⟨x, H1, I1, r1, q1⟩ => args_nil ?_) na) na rfl))
  obtain ⟨l, ns, rfl, hq, h1, hr, q1⟩ := q1
  cases r1
  obtain ⟨its, r, pl, hz⟩ := I1.list hq
  refine set_of_list ns (I1.ok.hd hc) pl.isList (by simpa using r.ints) (by unfold scanBound; omega) fun h' tk c R hcn hk => ?_
  have I2 : Inv X pins σ H1 { s1 with heap := h', toks := tk } := I1.kept hk
  obtain ⟨oa, hoa⟩ : ∃ o, h'.get? s1.heap.objs.size = some o := by
    obtain ⟨o, _, _, _, ho, _⟩ := id R
    exact ⟨o, ho⟩
  have nocell : ∀ v, oa.data ≠ .cell v := fun v z => by
    obtain ⟨o, es, ep, t, ho, _, hd, _⟩ := id R
    rw [hoa] at ho
    obtain rfl := Option.some.inj ho
    rw [hd] at z
    cases z
  have I3 : Inv X ((s1.heap.objs.size, oa) :: pins) σ H1 { s1 with heap := h', toks := tk } := I2.pins_of fun p hp => by
    rcases List.mem_cons.mp hp with rfl | hp
    · exact ⟨hoa, I1.hok.fresh (Nat.le_refl _), Nat.ne_of_gt I1.lt, I1.nofs (Nat.le_refl _), nocell⟩
    · exact I2.pin p (List.mem_append_right _ hp)
  refine Call_ (ld_blt I3 hg2 hm2 PyProof.Rows.boot_set (callWith_type1 (args_cons (thn (hb.run _ _ σ H1 _ I3 q1) fun u s2 ⟨y, H2, I4, r2, q2⟩ => args_nil ?_) nb) nb rfl))
  obtain ⟨l2, ms, rfl, hq2, h2, q2⟩ := q2
  cases r2
  obtain ⟨its2, r2, pl2, hz2⟩ := I4.list hq2
  refine set_of_list ms (I4.ok.hd hc) pl2.isList (by simpa using r2.ints) (by unfold scanBound; omega) fun h2' tk2 c2 R2 hcn2 hk2 => ?_
  have pa := (I4.pin (s1.heap.objs.size, oa) (List.mem_append_right _ List.mem_cons_self)).1
  have Ra : SetR X.w h2' s1.heap.objs.size (fun j => decide (j ∈ ns)) c := R.at fun o e => by
    rw [hoa] at e
    obtain rfl := Option.some.inj e
    exact hk2 _ _ pa
  have lta : s1.heap.objs.size < s2.heap.objs.size := Heap.lt_size pa
  refine sub_at (s := { s2 with heap := h2', toks := tk2 }) Ra R2 (Nat.ne_of_lt lta) (by omega) (fun k hkk => hr k (of_decide_eq_true hkk)) fun h3 D => args_nil ?_
  obtain ⟨hk3, es, ep, t, J, mem⟩ := D
  obtain ⟨o, ho, hx, hd⟩ := J.at'
  have I5 : Inv X pins σ H2 { s2 with heap := h3, toks := tk2 } := (I4.pins_of fun p hp => I4.pin p (List.mem_append_right _ (List.mem_cons_of_mem _ hp))).kept fun b u e => hk3 b u (hk2 b u e)
  have lt := J.lt
  refine call_len_set (s := { s2 with heap := h3, toks := tk2 }) ho hx hd J.fit (by unfold scanBound at lt; omega) ⟨.int (es.toList.map keyOf).length, H2, I5.tok _, ⟨_, by rw [List.length_map, Array.length_toList]⟩, q2 _ J.nd fun k => ?_⟩
  rw [mem k, decide_eq_true_eq, decide_eq_false_iff_not]
end
end SD
end L2

/-! ### list.count of a plain value -/
namespace L2
open PySem PySem.Spec PyProof.Rows
theorem countU {y : V} {uy : Value} (f : V → Bool) (g : Value → Bool) (h : ∀ z u, flatV z = true → RelV z u → g u = f z) : ∀ {ys : List V} {its : List Value}, Vals ys its → ys.all flatV = true → its.countP g = ys.countP f
  | _, _, .nil, _ => rfl
  | _, _, .cons r t, a => by
    rw [List.all_cons, Bool.and_eq_true] at a
    rw [List.countP_cons, List.countP_cons, countU (y := y) (uy := uy) f g h t a.2, h _ _ a.1 r]
def rCntV (K : PySem.W.Frag) : V → List V → Hp → VK → Prop := fun x xs H Q => ∃ (a : Addr) (ys : List V) (y : V), x = V.ref a ∧ xs = [y] ∧ SqL K H a ys ∧ flatV y = true ∧ ys.all flatV = true ∧ Q (.int (ys.countP fun z => eqV z y : Nat)) H
section
variable {X : Cx}
theorem mt_countV : MtR X "list.count" (rCntV X.K) := by
  intro pins s σ H x xs v us Q I rx rxs h
  obtain ⟨a, ys, y, rfl, rfl, hs, fy, fys, q⟩ := h
  cases rx
  cases rxs with
  | cons ry rt =>
    rename_i uy ut
    cases rt
    obtain ⟨its, rv, ⟨⟨cls, dd, data, sl⟩, n, ho, hc, hdn, hd⟩, hlen⟩ := I.list hs
    simp only at hc hd
    subst hc hd
    refine call_meets PySem.F.slot_list_count ⟨_, ho, rfl⟩ PySem.F.entry_list_count (PySem.F.args_list_count_2 _ _)
      (SeqAt.list_countAt a its.toArray n dd sl uy (eqU y)) ⟨ho, fun u' hu' => mem_eqAt ry fy rv fys u' (by simpa using hu'), ?_⟩
    have ec : its.toArray.toList.countP (eqU y) = ys.countP fun z => eqV z y := countU (y := y) (uy := uy) _ _ (fun z u fz r => eqU_of r fz) rv fys
    refine ⟨.int (ys.countP fun z => eqV z y : Nat), H, I.tok _, ⟨s.toks, ?_⟩, q⟩
    show Value.int ((its.toArray.toList.countP (eqU y) : Nat) : Int) s.toks = _
    rw [ec]
end
end L2

/-! ### sorted(list of data) -/
namespace L2
open PySem PySem.Spec PyProof.Rows
def rSortG (K : PySem.W.Frag) : List V → Hp → VK → Prop := fun vs H Q => ∃ (β : Type) (enc : β → PyData) (R : V → β → Prop) (a : Addr) (xs : List V) (bs : List β), vs = [V.ref a] ∧ SqL K H a xs ∧ (∀ x ∈ xs, ∃ t, x = V.ref t) ∧ Paired R xs bs ∧ Paired (fun x b => Dp K H x (enc b)) xs bs ∧
  PySem.W.AllAlike (bs.map enc) ∧ PySem.W.Sortable (bs.map enc) ∧ (∀ b ∈ bs, (enc b).depth ≤ 60) ∧ ∀ ys p, Paired R ys (bs.mergeSort (PySem.W.dataLe false enc)) → H p = none → Q (.ref p) (upd H p (.lst ys))
theorem each_of {β : Type} {R : V → β → Prop} : ∀ {us : List Value} {bs : List β}, Paired R (us.map backV) bs → PySem.W.EachIs (fun u b => R (backV u) b) us bs
  | [], _, h => by
    cases h
    exact .nil
  | u :: us, _, h => by
    cases h with
    | cons a t => exact .cons a (each_of t)
theorem of_each {β : Type} {R : V → β → Prop} : ∀ {us : List Value} {bs : List β}, PySem.W.EachIs (fun u b => R (backV u) b) us bs → Paired R (us.map backV) bs
  | _, _, .nil => .nil
  | _, _, .cons a t => .cons a (of_each t)
theorem each_and {α β : Type} {R S : α → β → Prop} : ∀ {us : List α} {bs : List β}, PySem.W.EachIs R us bs → PySem.W.EachIs S us bs → PySem.W.EachIs (fun u b => R u b ∧ S u b) us bs
  | _, _, .nil, .nil => .nil
  | _, _, .cons a t, .cons b u => .cons ⟨a, b⟩ (each_and t u)
theorem each_ref {β : Type} : ∀ {us : List Value} {bs : List β}, us.length = bs.length → (∀ u ∈ us, ∃ a, u = Value.ref a) → PySem.W.EachIs (fun u (_ : β) => ∃ a, u = Value.ref a) us bs
  | [], [], _, _ => .nil
  | u :: us, b :: bs, h, k => .cons (k u List.mem_cons_self) (each_ref (Nat.succ.inj h) fun v hv => k v (List.mem_cons_of_mem _ hv))
theorem each_mem {β : Type} {R : Value → β → Prop} {p : Value → Prop} (h : ∀ u b, R u b → p u) : ∀ {us : List Value} {bs : List β}, PySem.W.EachIs R us bs → ∀ u ∈ us, p u
  | _, _, .nil, u, hu => nomatch hu
  | _, _, .cons a t, u, hu => by
    rcases List.mem_cons.mp hu with rfl | hu
    · exact h _ _ a
    · exact each_mem h t u hu
theorem each_mono {β : Type} {R S : Value → β → Prop} (h : ∀ u b, R u b → S u b) : ∀ {us : List Value} {bs : List β}, PySem.W.EachIs R us bs → PySem.W.EachIs S us bs
  | _, _, .nil => .nil
  | _, _, .cons a t => .cons (h _ _ a) (each_mono h t)
theorem each_reads {X : Cx} {pins : List (Addr × Obj)} {σ : St} {H : Hp} {s : Shared} (I : Inv X pins σ H s) {β : Type} {enc : β → PyData} : ∀ {xs : List V} {us : List Value} {bs : List β}, Vals xs us → Paired (fun x b => Dp X.K H x (enc b)) xs bs → PySem.W.EachIs (fun v b => ∃ as, PySem.Reads s.heap v (enc b) as) us bs
  | _, _, _, .nil, .nil => .nil
  | _, _, _, .cons r t, .cons a u => .cons (Dp.reads I _ _ _ a r) (each_reads I t u)
section
variable {X : Cx}
theorem cr_sortedG (hu : X.A.units + 64 < cLine) : CallR X (.builtin "sorted") (rSortG X.K) := by
  intro pins s σ H vs us Q I r h
  obtain ⟨β, enc, R, a, xs, bs, rfl, hs, hx, pR, pD, al, so, dp, q⟩ := h
  obtain ⟨its, rv, hl, hz⟩ := I.list hs
  obtain ⟨u, rfl, ru⟩ := vals1 r
  obtain rfl : u = Value.ref a := ru
  obtain ⟨e1, e2⟩ := refs_back rv hx
  have er := each_reads I rv pD
  have lx : its.length = bs.length := by rw [← rv.length, pR.length]
  have eR : PySem.W.EachIs (fun u b => R (backV u) b) its bs := each_of (e1 ▸ pR)
  have eA := each_and eR (each_ref lx e2)
  refine PySem.W.sorted_data (enc := enc) hl.isList eA er al so (by rw [← lx, ← rv.length]; exact hz) (fun b hb => by have := dp b hb; omega) fun out ho eo => ?_
  obtain ⟨c, hc⟩ := PyProof.Rows.sortedAll_at s.heap its out.toArray
  have h3 : ∀ u ∈ out, ∃ a, u = Value.ref a := each_mem (fun _ _ h => h.2) eo
  have pO : Paired R (out.map backV) (bs.mergeSort (PySem.W.dataLe false enc)) := of_each (each_mono (fun _ _ h => h.1) eo)
  refine ⟨.ref (s.heap.objs.size + 1), upd H (s.heap.objs.size + 1) (.lst (out.map backV)), I.laid (t' := s.toks) (fun b o e => PyProof.Rows.sortedAll_old e) (Nat.le_succ _) ⟨?_, out, c, vals_back h3, hc⟩, rfl, q _ _ pO (I.hok.fresh (Nat.le_succ _))⟩
  rw [List.length_map, ho, ← lx, ← rv.length]
  exact hz
end
end L2

/-! ### a def that is called, within an except suite, with the exception that the suite holds -/
namespace L2
open PySem PySem.Spec PyProof.Rows
structure FnE (P : Program) (w : World) (K : PySem.W.Frag) (mg : Str → Option Value) (base : Heap) (k : Nat) (f : Addr) (fd : FuncData) (ps : List Str) (sp : Addr → Value → Option Addr → Sp) : Prop where
  len : ∀ a cls d vs H Q E, sp a cls d vs H Q E → vs.length = ps.length
  run : ∀ (A : Around) (outer : List Env) (s : Shared) (H : Hp) (args : Args) (us : List Value) (vs : List V) (Q : VK) (E : XK) (a : Addr) (oe : Obj) (cls : Value) (d : Option Addr), L2H.RoomH k A → L2H.Hot1 A (a, oe) → L2H.PinOk outer H s (a, oe) → Zc cls d oe → Env0 P w K mg base A outer s H →
    BindsTo s fd args (ps.zip us) → Vals vs us → sp a cls d vs H Q E → codeAny (model P w) A (.call (.ref f) args) (CR CX0 outer P w H s Q E) s
theorem Fun.okE {P : Program} {w : World} {K : PySem.W.Frag} {mg : Str → Option Value} {base : Heap} {x qual : Str} {st : Stmt} {f : Addr} {fd : FuncData} {N ps : List Str} {k : Nat} {sp : Addr → Value → Option Addr → Sp} (F : Fun K x qual st f fd) (S : FnScope N ps (defScope st))
    (len : ∀ a cls d vs H Q E, sp a cls d vs H Q E → vs.length = ps.length)
    (hbody : ∀ (cdv : Value) (A : Around) (outer : List Env) (s : Shared) (H : Hp) (vs : List V) (Q : VK) (E : XK) (a : Addr) (oe : Obj) (cls : Value) (d : Option Addr), Zc cls d oe → (∃ vs, oe.data = .fields vs) →
      L2H.RoomH k (A.deeper (envOfC qual (defScope st) s.heap.objs.size f cdv)) → sp a cls d vs H Q E →
      ∃ t, PSs (L2H.cxH CX0 P w K mg base N qual (defScope st) f cdv A outer s H E (a, oe)) (defBody st) t ∧ t { nx := fun _ H' => Q .non H', rt := Q } (start N vs) H) : FnE P w K mg base (k + 1) f fd ps sp := by
  obtain ⟨oc, od, kV, doc, pm, an, cdv, ct, osl, rfl, lk, hcd⟩ := F.ex
  refine ⟨len, fun A outer s H args us vs Q E a oe cls d hr hot hpin hz e0 hb r hsp => ?_⟩
  have keep := fun b o (e : base.get? b = some o) => (e0.bs b o e).1
  have inK : K.In s.heap := e0.mod.kin.keeps keep
  refine codeAny_call_function hr.depth (inK _ _ lk) rfl S.co S.gen rfl (PySem.W.codeRec_of inK hcd) (hb _ _ _ _ ?_)
  refine wpAny_newFunctionEnv_cells S.kind (fun ⟨n, v⟩ hy => ?_) fun env he s1 xx => ?_
  · exact (S.par n (List.of_mem_zip hy).1).elim .inl fun q => .inr ⟨q, PySem.W.cellsFrom_some _ _ _ (.inl q)⟩
  · subst he
    refine ⟨(e0.mod.nolimit.keeps keep).keeps xx.toInCall.keep, codeAny_func ?_⟩
    obtain ⟨t, ht, hq⟩ := hbody cdv A outer s H vs Q E a oe cls d hz ⟨_, hot.2.choose_spec.1⟩ (hr.deeper _) hsp
    have I := L2H.inv_startH (CX := CX0) (E := E) S hpin e0 (len _ _ _ _ _ _ _ hsp) r xx
    refine wpAny_mono (ht.run [] s1 _ H _ I hq) (fun fl s' hs => ?_) fun e s' hs => hs
    have fin : ∀ {σ' : St} {H' : Hp} {v : V} {u : Value}, Inv (L2H.cxH CX0 P w K mg base N qual (defScope st) f cdv A outer s H E (a, oe)) [] σ' H' s' → RelV v u → Q v H' → CE outer P w H s Q u s' :=
      fun {σ' H' v u} J rv q => ⟨v, H', J.os, J.bare, J.base, J.hok, rv, q⟩
    rcases fl with _ | _ | _ | u
    · obtain ⟨σ', H', J, q⟩ := hs
      exact fin (v := V.non) (u := Value.none) J rfl q
    · exact hs.elim fun _ z => z.elim fun _ z => z.2.elim
    · exact hs.elim fun _ z => z.elim fun _ z => z.2.elim
    · obtain ⟨v, σ', H', J, rv, q⟩ := hs
      exact fin J rv q
theorem roomE_of {k : Nat} {A : Around} (r : Room k A) (v : Option Value) : L2H.RoomH k (A.mark v) := ⟨r.dp, r.un⟩
def tCallX1 (sp : Addr → Value → Option Addr → Sp) (a : Addr) (cls : Value) (d : Option Addr) (t : TA) : TE := fun σ H Q => t σ H fun vs H1 => sp a cls d vs H1 Q E0
theorem pe_callX1 {X : Cx} {k : Nat} {f : Addr} {fd : FuncData} {ps : List Str} {sp : Addr → Value → Option Addr → Sp} {x : Str} {q pos : Pos} {e : Expr} {es : List Expr} {t : TA} {a : Addr} {oe : Obj} {cls : Value} {d : Option Addr} {pn : List (Addr × Obj)}
    (F : FnE X.prog X.w X.K X.mg X.base k f fd ps sp) (hr : Room k X.A) (hz : L2N.Zn cls d oe) (hf : ∃ vs, oe.data = .fields vs) (hg : Gl X x) (hm : X.mg x = some (.ref f)) (hk : PySem.W.keepIn X.K (.ref f) = true) (hb : Binds X.K fd ps [])
    (ha : PA (X.suite a ((a, oe) :: pn)) (e :: es) t) (hdb : (x == ("__debug__" : Str)) = false := by decide) (he : starEach (e :: es) X.env = (false, eval e X.env) :: starEach es X.env := by rfl) (hpl : (backTo pos (starEach es X.env)).any (·.1) = false := by rfl) :
    PE (X.suite a ((a, oe) :: pn)) (.Call (.Name x q) (e :: es) [] pos) (tCallX1 sp a cls d t) := by
  refine ⟨fun pins s σ H Q I h => ?_⟩
  refine wpAny_Call_Name_kw (ld_glob (X := X.suite a ((a, oe) :: pn)) I hg hm ?_ hdb)
  refine PySem.W.callWith_K (h₀ := X.base) I.ok.mod.kin hk (thn (ha.run pos pins s σ H _ I h) fun us s1 ⟨vs, H1, I1, r, q⟩ => ⟨I1.kIn, ?_⟩) he hpl
  have hl : us.length = ps.length := by rw [← r.length]; exact F.len _ _ _ _ _ _ _ q
  have b := hb s1 us I1.kIn (by rw [List.append_nil]; exact hl)
  rw [List.append_nil] at b
  have P1 := I1.pin (a, oe) (List.mem_append_left _ List.mem_cons_self)
  have hpin : L2H.PinOk (X.suite a ((a, oe) :: pn)).stack H1 s1 (a, oe) := ⟨P1.1, P1.2.1, fun hm => (List.mem_cons.mp (I1.stkSub a hm)).elim P1.2.2.1 P1.2.2.2.1, P1.2.2.2.2⟩
  have hot : L2H.Hot1 (X.suite a ((a, oe) :: pn)).A (a, oe) := by
    obtain ⟨vs, e⟩ := hf
    exact ⟨rfl, vs, e, hz.2.2 vs e⟩
  refine wpAny_call (codeAny_mono (F.run (X.suite a ((a, oe) :: pn)).A _ s1 H1 ⟨us, []⟩ us vs Q E0 a oe cls d (roomE_of hr _) hot hpin ⟨hz.1, hz.2.1⟩ I1.env0 b r q) fun r s' hq => ?_)
  cases r with
  | error e => exact hq.elim
  | ok fl =>
    cases fl with
    | ret u => exact I1.after hq
    | next => exact False.elim hq
    | brk => exact False.elim hq
    | cont => exact False.elim hq
/-- isinstance of that exception, in that def -/
def rIsEP (K : PySem.W.Frag) (cls : Value) (d : Option Addr) (a : Addr) : List V → Hp → VK → Prop := fun xs H Q => ∃ D : Addr, cls = .ref D ∧ d = none ∧ ExcC K D ∧ rIsE K D a xs H Q
theorem call_isEP {X : Cx} {a : Addr} {oe : Obj} {cls : Value} {d : Option Addr} (hp : (a, oe) ∈ X.pn) (hz : Zc cls d oe) (hf : ∃ vs, oe.data = .fields vs) : CallR X (.builtin "isinstance") (rIsEP X.K cls d a) := by
  intro pins s σ H xs us Q I r h
  obtain ⟨D, rfl, rfl, C, c, cv, b, rfl, hcv, e, q⟩ := h
  cases r with
  | cons rx rr =>
    cases rr with
    | cons rt rr =>
      cases rr
      cases rx
      have ec := hcv _ rt
      subst ec
      obtain ⟨hget, _⟩ := I.pin (a, oe) (List.mem_append.mpr (.inl hp))
      obtain ⟨vs, hv⟩ := hf
      have J : PySem.W.InstAt s.heap a oe D none := by
        obtain ⟨oc, od, oda, osl⟩ := oe
        obtain ⟨h1, h2⟩ := hz
        dsimp only at h1 h2 hv
        subst h1 h2 hv
        exact ⟨hget, rfl, rfl, trivial⟩
      exact PySem.W.kia_one (PySem.W.handS_kitx_exc C.hg C.hk C.hs C.hd C.ha C.hn C.ht C.hm) I.kIn J e (fun z => nomatch z) fun tk => ⟨.bl b, H, I.kept (t' := tk) fun _ _ z => z, rfl, q⟩
theorem call_isEH {P : Program} {w : World} {K : PySem.W.Frag} {mg : Str → Option Value} {base : Heap} {N : List Str} {qual : Str} {scope : Scope} {f : Addr} {cdv : Value} {A : Around} {outer : List Env} {s : Shared} {H : Hp} {E : XK} {a : Addr} {oe : Obj} {cls : Value} {d : Option Addr} (hz : Zc cls d oe) (hf : ∃ vs, oe.data = .fields vs) :
    CallR (L2H.cxH CX0 P w K mg base N qual scope f cdv A outer s H E (a, oe)) (.builtin "isinstance") (rIsEP K cls d a) :=
  call_isEP List.mem_cons_self hz hf
end L2

namespace L2
open PySem PySem.Spec PyProof.Rows
namespace SD
section
variable {P : Program} {w : World} {A : Around} {E : Value → Shared → Prop} {s : Shared}
set_option maxHeartbeats 3200000 in
/-- set(xs), xs a tuple of ints -/
theorem set_of_tup {l : Addr} {items : Array Value} (ns : List Int) {Q : Value → Shared → Prop} (hh : A.handled = none) (hl : IsTup s.heap l items) (hit : IntsAre items.toList ns) (hb : ns.length + 1 < scanBound)
    (h : ∀ (h' : Heap) (tk c : Nat), SetR w h' s.heap.objs.size (fun j => decide (j ∈ ns)) c → c ≤ ns.length → (∀ b o, s.heap.get? b = some o → h'.get? b = some o) → Q (.ref s.heap.objs.size) { s with heap := h', toks := tk }) :
    wpAny (model P w) A (call (.type "set") [.ref l]) Q E s := by
  have sz : items.size = ns.length := (Array.length_toList (xs := items)).symm.trans (IntsAre.length hit)
  have V : ∀ (i : Nat) (v : Value), items[i]? = some v → ∃ k t, ns[i]? = some k ∧ v = .int k t := fun i v hv => by
    have hi : i < ns.length := sz ▸ (Array.getElem?_eq_some_iff.mp hv).1
    obtain ⟨t, e⟩ := IntsAre.int_at hit i v (by rw [Array.getElem?_toList]; exact hv)
    exact ⟨ns[i], t, List.getElem?_eq_getElem hi, by rw [e, List.getD_eq_getElem?_getD, List.getElem?_eq_getElem hi]; rfl⟩
  obtain ⟨_, _, mro⟩ := PySem.F.called_set.mro
  have made := PySem.F.called_set.made; have sub := PySem.F.called_set.sub
  refine wpAny_call (codeAny_of_tree (show wpAny _ _ (callAny (.type "set") _) _ _ _ from ?_))
  refine wpAny_pure ⟨Code.quiet_builtin _ (by decide +kernel), codeAny_builtin PySem.F.entry_type_call ?_⟩
  rw [Around.under_plain (weight_type_call_type "set" [.ref l] []) rfl]
  have nt := PySem.F.called_set.notType; have cc := PySem.F.called_set.canCreate; have tc := PySem.F.typeCall_set_1 (.ref l)
  repeat (any_goals (first | assumption | wp_step))
  have at0 : (s.heap.push (e0 w)).get? s.heap.objs.size = some (e0 w) := Heap.get?_push_size _ rfl
  have keep0 : ∀ b o, s.heap.get? b = some o → (s.heap.push (e0 w)).get? b = some o := fun b o e => Heap.get?_push_of_some _ e
  refine codeAny_mono (code_set_led1 (.ref l) (E := E) (Q₁ := fun ob s₁ => ob = .ref s.heap.objs.size ∧ s₁ = { s with heap := s.heap.push (e0 w) }) ⟨rfl, rfl⟩) fun r s₁ hr => ?_
  match r, hr with
  | .error e, hr => exact hr
  | .ok (.ret ob), hr =>
    obtain ⟨rfl, rfl⟩ := hr
    have ty : Shared.TypeIs { s with heap := s.heap.push (e0 w) } (.ref s.heap.objs.size) "set" := ⟨_, at0, rfl⟩
    have il := PySem.F.called_set.init.lookup; have ib := PySem.F.called_set.init.bind (.ref s.heap.objs.size)
    repeat (any_goals (first | assumption | wp_step))
    refine codeAny_mono (codeAny_call_builtin (R := wants (fun r s₂ => r = .none ∧ ∃ h' tk c, s₂ = { s with heap := h', toks := tk } ∧ SetR w h' s.heap.objs.size (fun j => decide (j ∈ ns)) c ∧ c ≤ ns.length ∧ ∀ b o, s.heap.get? b = some o → h'.get? b = some o) E)
      PySem.F.called_set.init.plain PySem.F.entry_set_init (check_set_init_1 ty ?_)) fun r₂ s₂ hr₂ => ?_
    · obtain ⟨⟨oc, od, oda, osl⟩, hol, hcl, nl, hdl⟩ := hl
      simp only at hcl hdl
      subst hcl; subst hdl
      have ol' := keep0 _ _ hol
      have s1 := PySem.F.sub_tuple_set; have s2 := PySem.F.sub_tuple_frozenset
      have nd : (Value.type "tuple" == Value.type "dict") = false := by decide
      have isl : (s.heap.push (e0 w)).IsTuple l items := ⟨_, ol', rfl, nl, rfl⟩
      have lS : l < s.heap.objs.size := Heap.lt_size hol
      have zz : (s.heap.push (e0 w)).objs.size = s.heap.objs.size + 1 := Heap.size_push ..
      unfold Builtin.«set.__init__» noKeywords Builtin.Frozenset.updateFrom
      generalize hPI : pyIter = PI
      wp_walk
      subst hPI
      refine wpAny_pyIter_tuple isl (wpAny_bind (wpAny_runValue ?_))
      have h3 : A.in1.in1.in1.handled = none := by simp [hh]
      have neI : l ≠ (s.heap.push (e0 w)).objs.size := by rw [zz]; exact Nat.ne_of_lt (Nat.lt_succ_of_lt lS)
      refine set_update_ints ((Walks.tuple h3 _ l neI items).toS) s.heap.objs.size (by rw [zz]; simpa using fun z : s.heap.objs.size = l => Nat.ne_of_gt lS z) ns sz hb V (items.size - 0) 0 _ (by omega) (Nat.zero_le _) ⟨⟨_, Heap.get?_push_size _ rfl, rfl, rfl⟩, ⟨_, Heap.get?_push_of_some _ ol', rfl, nl, rfl⟩⟩
        ⟨0, Nat.le_refl 0, setR_new_at (Heap.get?_push_of_some _ at0)⟩ fun s' c' hm lc hS' => ?_
      obtain ⟨h', g2, d', tk', os'⟩ := s'
      obtain rfl : g2 = s.gens := hm.gens
      obtain rfl : d' = s.drawn := hm.drawn
      obtain rfl : os' = s.os := hm.os
      refine (show wpAny _ _ _ _ _ _ from wpAny_pure ?_)
      refine (show wpAny _ _ (ret Value.none) _ _ _ from wpAny_pure ⟨rfl, h', tk', c', rfl, hS', by omega, fun b o e => ?_⟩)
      have hb0 : b < s.heap.objs.size := Heap.lt_size e
      refine hm.heap b o ?_ (Heap.get?_push_of_some _ (keep0 b o e))
      rw [zz]
      simpa using ⟨Nat.ne_of_lt hb0, Nat.ne_of_lt (Nat.lt_succ_of_lt hb0)⟩
    · match r₂, hr₂ with
      | .error e, hr₂ => exact hr₂
      | .ok (.ret r), hr₂ =>
        obtain ⟨rfl, h', tk, c', rfl, hS', hc', hk'⟩ := hr₂
        repeat (any_goals (first | assumption | wp_step))
        exact h _ _ _ hS' hc' hk'
      | .ok .next, hr₂ => exact hr₂.elim
      | .ok .brk, hr₂ => exact hr₂.elim
      | .ok .cont, hr₂ => exact hr₂.elim
  | .ok .next, hr => exact hr.elim
  | .ok .brk, hr => exact hr.elim
  | .ok .cont, hr => exact hr.elim
end
section
variable {X : Cx}
/-- len(set(t)), t a tuple: as many as there are different ones -/
def tLenSetT (K : PySem.W.Frag) (ta : TE) : TE := fun σ H Q => ta σ H fun x H1 => ∃ (l : Addr) (ns : List Int), x = V.ref l ∧ SqT K H1 l (ns.map V.int) ∧ ns.length < 64 ∧
  ∀ L : List Int, L.Nodup → (∀ k, k ∈ L ↔ k ∈ ns) → Q (.int L.length) H1
theorem pe_lenSetT {a : Expr} {ta : TE} {p p2 q pos : Pos} (hc : X.calm = true) (hg : Gl X "len") (hm : X.mg "len" = none) (hg2 : Gl X "set") (hm2 : X.mg "set" = none) (ha : PE X a ta)
    (na : starEach [a] X.env = (false, eval a X.env) :: starEach [] X.env := by rfl) : PE X (.Call (.Name "len" p) [.Call (.Name "set" p2) [a] [] q] [] pos) (tLenSetT X.K ta) := by
  refine ⟨fun pins s σ H Q I h => ?_⟩
  refine Call_ (ld_blt I hg hm PySem.boot_len (callWith_builtin1 (args_cons ?_ rfl) rfl rfl))
  refine Call_ (ld_blt I hg2 hm2 PyProof.Rows.boot_set (callWith_type1 (args_cons (thn (ha.run pins s σ H _ I h) fun v s1 ⟨x, H1, I1, r1, q1⟩ => args_nil ?_) na) na rfl))
  obtain ⟨l, ns, rfl, hq, h1, q1⟩ := q1
  cases r1
  obtain ⟨its, r, pl, hz⟩ := I1.tuple hq
  refine set_of_tup ns (I1.ok.hd hc) pl (by simpa using r.ints) (by unfold scanBound; omega) fun h' tk c R hcn hk => args_nil ?_
  obtain ⟨es, ep, t, J, hS, hsz, _⟩ := Is.of R
  obtain ⟨o, ho, hx, hd⟩ := J.at'
  have I2 : Inv X pins σ H1 { s1 with heap := h', toks := tk } := I1.kept hk
  refine call_len_set ho hx hd J.fit (by omega) ⟨.int (es.toList.map keyOf).length, H1, I2.tok _, ⟨_, by rw [List.length_map, Array.length_toList]⟩, q1 _ J.nd fun k => ?_⟩
  rw [← hS k, decide_eq_true_eq]
end
end SD
end L2

namespace L2
open PySem PySem.Spec PyProof.Rows
/-! ### dicts whose keys are diagrams: tuples (n, m, blocks) -/
namespace KD
abbrev DK := Int × Int × List (List Int)
def nums (b : List Int) : NestedKey := .tup (b.map NestedKey.num)
def key (k : DK) : NestedKey := .tup [.num k.1, .num k.2.1, .tup (k.2.2.map nums)]
theorem map_inj {α β : Type} {f : α → β} (hf : ∀ x y, f x = f y → x = y) : ∀ {a b : List α}, a.map f = b.map f → a = b
  | [], [], _ => rfl
  | [], _ :: _, h => by simp at h
  | _ :: _, [], h => by simp at h
  | x :: a, y :: b, h => by
    rw [List.map_cons, List.map_cons] at h
    rw [hf _ _ (List.cons.inj h).1, map_inj hf (List.cons.inj h).2]
theorem nums_inj {a b : List Int} (h : nums a = nums b) : a = b := by
  have h1 := NestedKey.tup.inj h
  exact map_inj (fun x y e => NestedKey.num.inj e) h1
theorem key_inj {a b : DK} (h : key a = key b) : a = b := by
  have h1 := NestedKey.tup.inj h
  have e1 := NestedKey.num.inj (List.cons.inj h1).1
  have h2 := (List.cons.inj h1).2
  have e2 := NestedKey.num.inj (List.cons.inj h2).1
  have h3 := (List.cons.inj h2).2
  have e3 := NestedKey.tup.inj (List.cons.inj h3).1
  have e4 := map_inj (fun x y e => nums_inj e) e3
  obtain ⟨a1, a2, a3⟩ := a
  obtain ⟨b1, b2, b3⟩ := b
  dsimp only at e1 e2 e4
  rw [e1, e2, e4]
/-- at a stands the tuple of a diagram -/
def IsK (H : Hp) (k : DK) (a : Addr) : Prop := ∃ tb ts, H a = some (.tup [.int k.1, .int k.2.1, .ref tb]) ∧ H tb = some (.tup ts) ∧ Paired (fun v b => ∃ t, v = V.ref t ∧ H t = some (.tup (b.map V.int))) ts k.2.2
theorem IsK.same {H H' : Hp} {k : DK} {a : Addr} (s : ∀ b xs, H b = some (.tup xs) → H' b = some (.tup xs)) (x : IsK H k a) : IsK H' k a := by
  obtain ⟨tb, ts, h1, h2, p⟩ := x
  refine ⟨tb, ts, s _ _ h1, s _ _ h2, Paired.mapP p fun _ _ h => ?_⟩
  obtain ⟨t, e, h⟩ := h
  exact ⟨t, e, s _ _ h⟩
theorem all_nums {h : Heap} : ∀ {b : List Int} {us : List Value}, Vals (b.map V.int) us → NestedAll h (b.map NestedKey.num) us
  | [], us, r => by
    cases r
    exact .nil
  | x :: b, us, r => by
    cases r with
    | cons r t =>
      obtain ⟨tk, rfl⟩ := r
      exact .cons (.int _ _) (all_nums t)
theorem tup_is {P : Program} {w : World} {H : Hp} {h : Heap} {b : List Int} {t : Addr} (ok : HOk P w H h) (e : H t = some (.tup (b.map V.int))) : NestedIs h (nums b) (.ref t) := by
  obtain ⟨_, its, r, o, h1, h2, n, h3⟩ := (show ObjOk P w H h t (.tup (b.map V.int)) from ok t _ e)
  exact .tup h1 h2 h3 (by simpa using all_nums r)
theorem tups_is {P : Program} {w : World} {H : Hp} {h : Heap} (ok : HOk P w H h) : ∀ {ts : List V} {bs : List (List Int)} {us : List Value}, Paired (fun v b => ∃ t, v = V.ref t ∧ H t = some (.tup (b.map V.int))) ts bs → Vals ts us → NestedAll h (bs.map nums) us
  | _, _, us, .nil, r => by
    cases r
    exact .nil
  | _, _, us, .cons f p, r => by
    cases r with
    | cons r t =>
      obtain ⟨a, rfl, ha⟩ := f
      cases r
      exact .cons (tup_is ok ha) (tups_is ok p t)
theorem depth_nums : ∀ b : List Int, NestedKey.depthAll (b.map NestedKey.num) = 0
  | [] => by simp [NestedKey.depthAll]
  | x :: b => by simp [NestedKey.depthAll, NestedKey.depth, depth_nums b]
theorem depth_all : ∀ bs : List (List Int), NestedKey.depthAll (bs.map nums) ≤ 1
  | [] => by simp [NestedKey.depthAll]
  | b :: bs => by
    have := depth_all bs
    simp [NestedKey.depthAll, nums, NestedKey.depth, depth_nums b]
    omega
theorem is_key {P : Program} {w : World} {H : Hp} {h : Heap} {k : DK} {a : Addr} (ok : HOk P w H h) (x : IsK H k a) : (nestedKind P w).is h (key k) a := by
  obtain ⟨tb, ts, h1, h2, p⟩ := x
  obtain ⟨_, its, r, o, g1, g2, n, g3⟩ := (show ObjOk P w H h a (.tup _) from ok a _ h1)
  obtain ⟨_, its2, r2, o2, f1, f2, n2, f3⟩ := (show ObjOk P w H h tb (.tup _) from ok tb _ h2)
  refine ⟨?_, ?_⟩
  · cases r with
    | cons r1 r =>
      cases r with
      | cons r3 r =>
        cases r with
        | cons r4 r =>
          cases r
          obtain ⟨t1, rfl⟩ := r1
          obtain ⟨t2, rfl⟩ := r3
          cases r4
          exact .tup g1 g2 g3 (by
            show NestedAll h [.num k.1, .num k.2.1, .tup (k.2.2.map nums)] _
            exact .cons (.int _ _) (.cons (.int _ _) (.cons (.tup f1 f2 f3 (by simpa using tups_is ok p r2)) .nil)))
  · have := depth_all k.2.2
    show NestedKey.depth (key k) ≤ 8
    simp [key, NestedKey.depth, NestedKey.depthAll]
    omega
/-- what a dict holds: key, the address of its tuple, value -/
abbrev Ents := List (DK × Addr × V)
abbrev Rel (kvs : Ents) (xs : List (NestedKey × Addr × Value)) : Prop := Paired (fun (p : DK × Addr × V) (q : NestedKey × Addr × Value) => q.1 = key p.1 ∧ p.2.1 = q.2.1 ∧ RelV p.2.2 q.2.2) kvs xs
/-- the dict at a -/
def NDict (P : Program) (w : World) (a : Addr) (kvs : Ents) : HO := .ext fun h => kvs.length ≤ sizeLine ∧ (a == sysModules) = false ∧ ∃ xs, Rel kvs xs ∧
  ∃ o es ep, h.get? a = some o ∧ o.ExactDict ∧ o.data = .dict es ep ∧ es.toList = xs.map (entryOfKey (nestedKind P w)) ∧ (xs.map (·.1)).Nodup
def KeysOk (H : Hp) (kvs : Ents) : Prop := ∀ p ∈ kvs, IsK H p.1 p.2.1
theorem KeysOk.same {H H' : Hp} {kvs : Ents} (s : ∀ b xs, H b = some (.tup xs) → H' b = some (.tup xs)) (x : KeysOk H kvs) : KeysOk H' kvs := fun p hp => (x p hp).same s
def valD (kvs : Ents) (k : DK) : Option V := (kvs.find? fun p => decide (p.1 = k)).map (·.2.2)
def putD (kvs : Ents) (k : DK) (a : Addr) (v : V) : Ents := if (valD kvs k).isSome = true then kvs.map fun p => if p.1 = k then (p.1, p.2.1, v) else p else kvs ++ [(k, a, v)]
theorem valD_nil (k : DK) : valD [] k = none := rfl
theorem valD_cons (p : DK × Addr × V) (kvs : Ents) (k : DK) : valD (p :: kvs) k = if p.1 = k then some p.2.2 else valD kvs k := by
  unfold valD
  by_cases e : p.1 = k
  · simp [List.find?_cons, e]
  · simp [List.find?_cons, e]
theorem Rel.val {kvs : Ents} {xs : List (NestedKey × Addr × Value)} (r : Rel kvs xs) (k : DK) : RelO (valD kvs k) ((atKey xs (key k)).map (·.2)) := by
  induction r with
  | nil => exact True.intro
  | @cons p q ps qs h t ih =>
    obtain ⟨h1, _, h2⟩ := h
    rw [valD_cons]
    by_cases e : p.1 = k
    · have e' : q.1 = key k := by rw [h1, e]
      have b : atKey (q :: qs) (key k) = some q.2 := by simp [atKey, List.find?_cons, e']
      rw [if_pos e, b]
      exact h2
    · have e' : ¬ q.1 = key k := fun z => e (key_inj (h1.symm.trans z))
      have b : atKey (q :: qs) (key k) = atKey qs (key k) := by simp [atKey, List.find?_cons, e']
      rw [if_neg e, b]
      exact ih
theorem Rel.put {kvs : Ents} {xs : List (NestedKey × Addr × Value)} (r : Rel kvs xs) (k : DK) {b : Addr} {y : V} {u : Value} (ry : RelV y u) : Rel (putD kvs k b y) (storedH xs (key k) b u) := by
  have e : (valD kvs k).isSome = (atKey xs (key k)).isSome := by rw [(Rel.val r k).isSome_eq, Option.isSome_map]
  unfold putD storedH
  rw [e]
  by_cases q : (atKey xs (key k)).isSome = true
  · rw [if_pos q, if_pos q]
    clear e q
    induction r with
    | nil => exact .nil
    | @cons p q ps qs h t ih =>
      rw [List.map_cons, List.map_cons]
      refine .cons ?_ ih
      obtain ⟨h1, h2, h3⟩ := h
      unfold putAt
      by_cases e : p.1 = k
      · rw [if_pos e, if_pos (by rw [h1, e])]
        exact ⟨h1, h2, ry⟩
      · rw [if_neg e, if_neg (fun z => e (key_inj (h1.symm.trans z)))]
        exact ⟨h1, h2, h3⟩
  · rw [if_neg q, if_neg q]
    exact Paired.snoc r ⟨rfl, rfl, ry⟩
theorem Rel.keys {P : Program} {w : World} {H : Hp} {h : Heap} (ok : HOk P w H h) {kvs : Ents} {xs : List (NestedKey × Addr × Value)} (r : Rel kvs xs) (K : KeysOk H kvs) : ∀ x ∈ xs, (nestedKind P w).is h x.1 x.2.1 := by
  induction r with
  | nil => exact fun x hx => nomatch hx
  | @cons p q ps qs hq t ih =>
    intro x hx
    rcases List.mem_cons.mp hx with e | hx
    · subst e
      have := is_key ok (K p List.mem_cons_self)
      rwa [← hq.1, hq.2.1] at this
    · exact ih (fun p hp => K p (List.mem_cons_of_mem _ hp)) x hx
theorem nd_of {P : Program} {w : World} {H : Hp} {h : Heap} {a : Addr} {kvs : Ents} (ok : HOk P w H h) (e : H a = some (NDict P w a kvs)) (K : KeysOk H kvs) :
    kvs.length ≤ sizeLine ∧ (a == sysModules) = false ∧ ∃ xs, Rel kvs xs ∧ h.DictOfH (nestedKind P w) a xs := by
  obtain ⟨⟨z, y, xs, r, o, es, ep, h1, h2, h3, h4, h5⟩, _⟩ := (show ObjOk P w H h a (NDict P w a kvs) from ok a _ e)
  exact ⟨z, y, xs, r, o, es, ep, h1, h2, h3, h4, Rel.keys ok r K, h5⟩
theorem nd_ok {P : Program} {w : World} {H : Hp} {h : Heap} {a : Addr} {kvs : Ents} {xs : List (NestedKey × Addr × Value)} (z : kvs.length ≤ sizeLine) (y : (a == sysModules) = false) (r : Rel kvs xs) (d : h.DictOfH (nestedKind P w) a xs) : ObjOk P w H h a (NDict P w a kvs) := by
  obtain ⟨o, es, ep, h1, h2, h3, h4, _, h5⟩ := d
  refine ⟨⟨z, y, xs, r, o, es, ep, h1, h2, h3, h4, h5⟩, ⟨o, h1⟩, fun g1 g2 f k => ?_⟩
  obtain ⟨z, y, xs, r, o, es, ep, h1, h⟩ := f
  exact ⟨z, y, xs, r, o, es, ep, k _ h1, h⟩
section
variable {X : Cx}
/-- {} -/
def tNNew (P : Program) (w : World) : TE := fun _ H Q => ∀ p, H p = none → Q (.ref p) (upd H p (NDict P w p []))
theorem pe_nnew {pos : Pos} : PE X (.Dict [] [] pos) (tNNew X.prog X.w) := ⟨fun pins s σ H Q I h =>
  wpAny_Dict_empty ⟨.ref s.heap.objs.size, _, I.laid (a := s.heap.objs.size) (o := NDict X.prog X.w s.heap.objs.size []) (t' := s.toks) (fun _ _ q => Heap.get?_push_of_some _ q) (Nat.le_refl _)
    (nd_ok (Nat.zero_le _) (beq_eq_false_iff_ne.mpr (Ne.symm (Nat.ne_of_lt I.big))) .nil (Heap.DictOfH.new s.heap)), rfl, h _ (I.hok.fresh (Nat.le_refl _))⟩⟩
/-- d, k of a look-up -/
def At (P : Program) (w : World) (H : Hp) (x y : V) (kvs : Ents) (k : DK) : Prop := ∃ a b, x = .ref a ∧ y = .ref b ∧ H a = some (NDict P w a kvs) ∧ KeysOk H kvs ∧ IsK H k b
def rNIn (P : Program) (w : World) : R2 := fun y x H Q => ∃ kvs k, At P w H x y kvs k ∧ Q (.bl (valD kvs k).isSome) H
def rNNotIn (P : Program) (w : World) : R2 := fun y x H Q => ∃ kvs k, At P w H x y kvs k ∧ Q (.bl (!(valD kvs k).isSome)) H
theorem room_in1 {A : Around} (hu : A.units + 64 < cLine) {P : Program} {w : World} : (nestedKind P w).room A.in1 := by
  show A.units + 1 + 8 < cLine
  omega
theorem op_nin (hu : X.A.units + 64 < cLine) : OpR X (compareOp .In) (rNIn X.prog X.w) := by
  intro pins s σ H y x u v Q I ry rx h
  obtain ⟨kvs, k, ⟨a, b, rfl, rfl, ha, K, hb⟩, q⟩ := h
  cases rx
  cases ry
  obtain ⟨z, hd, xs, rel, dd⟩ := nd_of I.hok ha K
  refine wpAny_in_heap (room_in1 hu) (is_key I.hok hb) hd dd ?_
  have e := (Rel.val rel k).isSome_eq
  rw [Option.isSome_map] at e
  rw [← e]
  exact ⟨.bl (valD kvs k).isSome, H, I.tok _, rfl, q⟩
theorem op_nnotin (hu : X.A.units + 64 < cLine) : OpR X (compareOp .NotIn) (rNNotIn X.prog X.w) := by
  intro pins s σ H y x u v Q I ry rx h
  obtain ⟨kvs, k, ⟨a, b, rfl, rfl, ha, K, hb⟩, q⟩ := h
  cases rx
  cases ry
  obtain ⟨z, hd, xs, rel, dd⟩ := nd_of I.hok ha K
  refine wpAny_notIn_heap (room_in1 hu) (is_key I.hok hb) hd dd ?_
  have e := (Rel.val rel k).isSome_eq
  rw [Option.isSome_map] at e
  rw [← e]
  exact ⟨.bl (!(valD kvs k).isSome), H, I.tok _, rfl, q⟩
/-- d[k] -/
def tNGet (P : Program) (w : World) (td ty : TE) : TE := fun σ H Q => td σ H fun x H1 => ty σ H1 fun y H2 => ∃ kvs k v, At P w H2 x y kvs k ∧ valD kvs k = some v ∧ Q v H2
theorem pe_nget {o i : Expr} {pos : Pos} {td ty : TE} (hu : X.A.units + 64 < cLine) (ho : PE X o td) (hi : PE X i ty) (hs : NoSl i) : PE X (.Subscript o i pos) (tNGet X.prog X.w td ty) := by
  refine ⟨fun pins s σ H Q I h => ?_⟩
  refine subD_of PySem.F.slot_dict_getitem.lookup hs (thn (ho.run pins s σ H _ I h) fun u s1 ⟨x, H1, I1, rx, q1⟩ => thn (hi.run pins s1 σ H1 _ I1 q1) fun iv s2 ⟨y, H2, I2, ry, kvs, k, v, ⟨a, b, ex, ey, ha, K, hb⟩, hv, q2⟩ => ?_)
  subst ex
  subst ey
  obtain rfl : u = Value.ref a := rx
  obtain rfl : iv = Value.ref b := ry
  obtain ⟨z, hd, xs, rel, dd⟩ := nd_of I2.hok ha K
  obtain ⟨w', hw, rw'⟩ := RelO.some_of (v := v) (o := (atKey xs (key k)).map (·.2)) (by rw [← hv]; exact Rel.val rel k)
  obtain ⟨p, hp, hp2⟩ := Option.map_eq_some_iff.mp hw
  refine ⟨dd.typeIs, wpAny_getItem_heap (room_in1 hu) (is_key I2.hok hb) dd hp ?_⟩
  rw [hp2]
  exact ⟨v, H2, I2.tok _, rw', q2⟩
/-- d[k] = v -/
def rNSet (P : Program) (w : World) : V → V → V → Hp → (Hp → Prop) → Prop := fun x y v H Q => ∃ kvs k a b, x = .ref a ∧ y = .ref b ∧ H a = some (NDict P w a kvs) ∧ KeysOk H kvs ∧ IsK H k b ∧ kvs.length < sizeLine ∧ Q (upd H a (NDict P w a (putD kvs k b v)))
theorem putD_len (kvs : Ents) (k : DK) (b : Addr) (v : V) : (putD kvs k b v).length ≤ kvs.length + 1 := by
  unfold putD
  split
  · rw [List.length_map]; omega
  · rw [List.length_append]; exact Nat.le_refl _
theorem set_nd (hu : X.A.units + 64 < cLine) : PSet X (rNSet X.prog X.w) := by
  intro pins s σ H x y v xv yv u Q I rx ry rv h
  obtain ⟨kvs, k, a, b, rfl, rfl, ha, K, hb, hl, q⟩ := h
  cases rx
  cases ry
  obtain ⟨z, hd, xs, rel, dd⟩ := nd_of I.hok ha K
  have hz : xs.length ≤ sizeLine := by rw [← Paired.length rel]; exact z
  refine wpAny_setItem_heap (room_in1 hu) (is_key I.hok hb) dd (fun h' hm' hs => ?_) hz
  obtain ⟨o, _, _, ho, _⟩ := id hm'
  have := putD_len kvs k b v
  exact ⟨_, d_write I (by rw [ha]; trivial) hs ⟨o, ho⟩ (nd_ok (by omega) hd (Rel.put rel k rv) hm'), q⟩
end
end KD
end L2

namespace L2
open PySem PySem.Spec PyProof.Rows
/-! ### more on dicts whose keys are diagrams: they may stand still -/
namespace KD
/-- at a stands a dict with these entries, and it will not change -/
def NZ (P : Program) (w : World) (H : Hp) (a : Addr) (kvs : Ents) : Prop := ∃ o, H a = some (.frz o (NDict P w a kvs))
theorem NZ.same {P : Program} {w : World} {H H' : Hp} {a : Addr} {kvs : Ents} (s : ∀ b o, H b = some o → H' b = some o) (h : NZ P w H a kvs) : NZ P w H' a kvs := h.elim fun o e => ⟨o, s _ _ e⟩
theorem NZ.rd {P : Program} {w : World} {H : Hp} {a : Addr} {kvs : Ents} (h : NZ P w H a kvs) : Rd H a (NDict P w a kvs) := .inr h
theorem nd_rd {P : Program} {w : World} {H : Hp} {h : Heap} {a : Addr} {kvs : Ents} (ok : HOk P w H h) (e : Rd H a (NDict P w a kvs)) (K : KeysOk H kvs) :
    kvs.length ≤ sizeLine ∧ (a == sysModules) = false ∧ ∃ xs, Rel kvs xs ∧ h.DictOfH (nestedKind P w) a xs := by
  obtain ⟨⟨z, y, xs, r, o, es, ep, h1, h2, h3, h4, h5⟩, _⟩ := (show ObjOk P w H h a (NDict P w a kvs) from e.ok ok)
  exact ⟨z, y, xs, r, o, es, ep, h1, h2, h3, h4, Rel.keys ok r K, h5⟩
def At2 (P : Program) (w : World) (H : Hp) (x y : V) (kvs : Ents) (k : DK) : Prop := ∃ a b, x = .ref a ∧ y = .ref b ∧ Rd H a (NDict P w a kvs) ∧ KeysOk H kvs ∧ IsK H k b
section
variable {X : Cx}
/-- k in d, k not in d -/
def rZIn (P : Program) (w : World) : R2 := fun y x H Q => ∃ kvs k, At2 P w H x y kvs k ∧ Q (.bl (valD kvs k).isSome) H
def rZNotIn (P : Program) (w : World) : R2 := fun y x H Q => ∃ kvs k, At2 P w H x y kvs k ∧ Q (.bl (!(valD kvs k).isSome)) H
theorem op_zin (hu : X.A.units + 64 < cLine) : OpR X (compareOp .In) (rZIn X.prog X.w) := by
  intro pins s σ H y x u v Q I ry rx h
  obtain ⟨kvs, k, ⟨a, b, rfl, rfl, ha, K, hb⟩, q⟩ := h
  cases rx
  cases ry
  obtain ⟨z, hd, xs, rel, dd⟩ := nd_rd I.hok ha K
  refine wpAny_in_heap (room_in1 hu) (is_key I.hok hb) hd dd ?_
  have e := (Rel.val rel k).isSome_eq
  rw [Option.isSome_map] at e
  rw [← e]
  exact ⟨.bl (valD kvs k).isSome, H, I.tok _, rfl, q⟩
theorem op_znotin (hu : X.A.units + 64 < cLine) : OpR X (compareOp .NotIn) (rZNotIn X.prog X.w) := by
  intro pins s σ H y x u v Q I ry rx h
  obtain ⟨kvs, k, ⟨a, b, rfl, rfl, ha, K, hb⟩, q⟩ := h
  cases rx
  cases ry
  obtain ⟨z, hd, xs, rel, dd⟩ := nd_rd I.hok ha K
  refine wpAny_notIn_heap (room_in1 hu) (is_key I.hok hb) hd dd ?_
  have e := (Rel.val rel k).isSome_eq
  rw [Option.isSome_map] at e
  rw [← e]
  exact ⟨.bl (!(valD kvs k).isSome), H, I.tok _, rfl, q⟩
/-- d[k] -/
def tZGet (P : Program) (w : World) (td ty : TE) : TE := fun σ H Q => td σ H fun x H1 => ty σ H1 fun y H2 => ∃ kvs k v, At2 P w H2 x y kvs k ∧ valD kvs k = some v ∧ Q v H2
theorem pe_zget {o i : Expr} {pos : Pos} {td ty : TE} (hu : X.A.units + 64 < cLine) (ho : PE X o td) (hi : PE X i ty) (hs : NoSl i) : PE X (.Subscript o i pos) (tZGet X.prog X.w td ty) := by
  refine ⟨fun pins s σ H Q I h => ?_⟩
  refine subD_of PySem.F.slot_dict_getitem.lookup hs (thn (ho.run pins s σ H _ I h) fun u s1 ⟨x, H1, I1, rx, q1⟩ => thn (hi.run pins s1 σ H1 _ I1 q1) fun iv s2 ⟨y, H2, I2, ry, kvs, k, v, ⟨a, b, ex, ey, ha, K, hb⟩, hv, q2⟩ => ?_)
  subst ex
  subst ey
  obtain rfl : u = Value.ref a := rx
  obtain rfl : iv = Value.ref b := ry
  obtain ⟨z, hd, xs, rel, dd⟩ := nd_rd I2.hok ha K
  obtain ⟨w', hw, rw'⟩ := RelO.some_of (v := v) (o := (atKey xs (key k)).map (·.2)) (by rw [← hv]; exact Rel.val rel k)
  obtain ⟨p, hp, hp2⟩ := Option.map_eq_some_iff.mp hw
  refine ⟨dd.typeIs, wpAny_getItem_heap (room_in1 hu) (is_key I2.hok hb) dd hp ?_⟩
  rw [hp2]
  exact ⟨v, H2, I2.tok _, rw', q2⟩
/-- d.get(k, x) -/
def tZGetD (P : Program) (w : World) (td ty tx : TE) : TE := fun σ H Q => td σ H fun x H1 => ∃ a kvs, x = .ref a ∧ Rd H1 a (NDict P w a kvs) ∧ KeysOk H1 kvs ∧ ty σ H1 fun y H2 => tx σ H2 fun z H3 => ∃ k b, y = .ref b ∧ Rd H3 a (NDict P w a kvs) ∧ KeysOk H3 kvs ∧ IsK H3 k b ∧ Q ((valD kvs k).getD z) H3
theorem getOr_nd {s : Shared} {A : Around} {E : Value → Shared → Prop} {P : Program} {w : World} {Q : Value → Shared → Prop} {d b : Addr} {k : NestedKey} {xs : List (NestedKey × Addr × Value)} {r : Value} (hu : A.units + 64 < cLine) (hk : (nestedKind P w).is s.heap k b) (hd : (d == sysModules) = false) (dd : s.heap.DictOfH (nestedKind P w) d xs)
    (h : ∀ t, Q (((atKey xs k).map (·.2)).getD r) { s with toks := t }) : wpAny (model P w) A (call (.builtin "dict.get") [.ref d, .ref b, r]) Q E s := by
  refine getOr_keyed (knd := nestedKind P w) (kvs := pairsH xs) (room_in1 hu) hk hd ⟨xs, dd, rfl⟩ ?_
  rw [valueAt_pairsH]
  exact h _
theorem pe_zgetd {o e f : Expr} {apos cpos : Pos} {td ty tx : TE} (hu : X.A.units + 64 < cLine) (ho : PE X o td) (he : PE X e ty) (hf : PE X f tx) (m : M2 X o "get" apos e f cpos) : PE X (.Call (.Attribute o "get" apos) [e, f] [] cpos) (tZGetD X.prog X.w td ty tx) := by
  refine ⟨fun pins s σ H Q I h => ?_⟩
  refine wpAny_Call_method m.base m.few m.line PySem.F.plainAttrs_dict PySem.F.slot_dict_get PySem.F.type_dict_get (thn (ho.run pins s σ H _ I h) fun u s1 ⟨x, H1, I1, rx, a, kvs, ex, ha, K, q1⟩ => ?_)
  subst ex
  obtain rfl : u = Value.ref a := rx
  obtain ⟨_, _, _, _, dd0⟩ := nd_rd I1.hok ha K
  refine ⟨dd0.typeIs, fun b q => ?_, ?_⟩
  · cases q
    obtain ⟨ob, _, _, h1, h2, _⟩ := dd0
    exact ⟨ob, h1, h2.2.1⟩
  rw [m.trees]
  refine Calls.callWith_builtin rfl (Calls.evalArgs_plain (Calls.spliced_cons (thn (he.run pins s1 σ H1 _ I1 q1) fun iv s2 ⟨y, H2, I2, ry, q2⟩ => Calls.spliced_cons (thn (hf.run pins s2 σ H2 _ I2 q2) fun fv s3 ⟨z, H3, I3, rz, k, b, ey, ha3, K3, hb, q3⟩ => Calls.spliced_nil ?_))))
  subst ey
  obtain rfl : iv = Value.ref b := ry
  obtain ⟨_, hd, xs, rel, dd⟩ := nd_rd I3.hok ha3 K3
  refine getOr_nd hu (is_key I3.hok hb) hd dd fun t => ?_
  exact ⟨_, H3, I3.tok _, (Rel.val rel k).getD rz, q3⟩
/-- the dict stands still from now on -/
def tStill (P : Program) (w : World) (t : TE) : TE := fun σ H Q => t σ H fun x H1 => ∃ a kvs, x = .ref a ∧ H1 a = some (NDict P w a kvs) ∧ ∀ o, Q x (upd H1 a (.frz o (NDict P w a kvs)))
theorem pe_still {e : Expr} {t : TE} (h : PE X e t) : PE X e (tStill X.prog X.w t) := by
  refine ⟨fun pins s σ H Q I hw => ?_⟩
  refine thn (h.run pins s σ H _ I hw) fun u s1 ⟨x, H1, I1, rx, a, kvs, ex, ha, q⟩ => ?_
  obtain ⟨o, I2⟩ := I1.lock ha True.intro
  exact ⟨x, _, I2, rx, q o⟩
/-- len(d) -/
def rZLen (P : Program) (w : World) : List V → Hp → VK → Prop := fun xs H Q => ∃ (p : Addr) (kvs : Ents), xs = [.ref p] ∧ Rd H p (NDict P w p kvs) ∧ KeysOk H kvs ∧ Q (.int ((kvs.length : Nat) : Int)) H
theorem call_zlen : CallR X (.builtin "len") (rZLen X.prog X.w) := by
  intro pins s σ H xs us Q I r h
  obtain ⟨p, kvs, rfl, hp, K, q⟩ := h
  obtain ⟨u, rfl, rx⟩ := vals1 r
  obtain rfl : u = .ref p := rx
  obtain ⟨z, hd, ys, rel, dd⟩ := nd_rd I.hok hp K
  have hl : kvs.length = ys.length := Paired.length rel
  refine call_len_dictH hd dd (by rw [← hl]; rw [sizeLine_eq] at z; omega) ?_
  rw [← hl]
  exact ⟨.int ((kvs.length : Nat) : Int), H, I.tok _, ⟨_, rfl⟩, q⟩
end
/-! ### walks -/
/-- the keys of the still dict at d -/
def ItZ (P : Program) (w : World) (d : Addr) (o : Obj) (kvs : Ents) : It :=
  ⟨fun i H => H d = some (.frz o (NDict P w d kvs)) ∧ i < kvs.length, fun i H x H' => H' = H ∧ ∃ p, kvs[i]? = some p ∧ x = .ref p.2.1, fun i H => H d = some (.frz o (NDict P w d kvs)) ∧ kvs.length ≤ i⟩
theorem frzN {X : Cx} {pins : List (Addr × Obj)} {σ : St} {H : Hp} {s : Shared} {d : Addr} {o : Obj} {kvs : Ents} (I : Inv X pins σ H s) (h : H d = some (.frz o (NDict X.prog X.w d kvs))) :
    (d == sysModules) = false ∧ s.heap.get? d = some o ∧ o.ExactDict ∧ ∃ (es : Array DictEntry) (ep : Nat), o.data = .dict es ep ∧ es.size = kvs.length ∧
      ∀ (i : Nat) (p : DK × Addr × V), kvs[i]? = some p → ∃ en : DictEntry, es[i]? = some en ∧ en.key = .ref p.2.1 ∧ RelV p.2.2 en.val := by
  obtain ⟨hd, ⟨z, hs, xs, pr, o', es, ep, ho, hx, hdt, he, _⟩, _⟩ := I.hok d _ h
  rw [hd] at ho
  cases ho
  refine ⟨hs, hd, hx, es, ep, hdt, ?_, fun i p e => ?_⟩
  · have l1 : es.size = xs.length := size_of_entries he
    have l2 : kvs.length = xs.length := Paired.length pr
    omega
  · obtain ⟨b, hb, e1, e2, e3⟩ := paired_get pr e
    have q := entry_at he i
    rw [hb] at q
    exact ⟨_, q, by show Value.ref b.2.1 = _; rw [e2], e3⟩
section
variable {P : Program} {w : World} {K : PySem.W.Frag} {tg : Expr} {d : Addr} {o : Obj} {es : Array DictEntry} {ep : Nat}
theorem turn_z {kvs : Ents} (it : Addr) (hod : o.data = .dict es ep) : Turn P w K tg (ItZ P w d o kvs) [it] it (fun i h => h.IsKeyIter it d i kvs.length ep) where
  mem := by simp
  obj := fun i h st b hb => by
    obtain rfl : b = it := by simpa using hb
    obtain ⟨oi, e, c, dd⟩ := st
    exact ⟨oi, e, fun v z => by rw [dd] at z; cases z⟩
  keep := fun i h h' st k => st.at fun oi e => k it (by simp) oi e
  item := by
    intro X hP hw hK hc i pins s σ H E I hf st hg
    subst hP hw hK
    obtain ⟨hd, hi⟩ := hg
    obtain ⟨g0, g1, g2, g3, g4, g5⟩ := hf it (by simp)
    obtain ⟨hs, hgd, hx, es', ep', hdt, hsz, ent⟩ := frzN I hd
    obtain ⟨rfl, rfl⟩ := dict_ep hod hdt
    obtain ⟨p, hkv⟩ : ∃ p, kvs[i]? = some p := ⟨kvs[i], List.getElem?_eq_getElem hi⟩
    obtain ⟨en, hen, hkey, _⟩ := ent i p hkv
    refine next_key_item st hgd hdt hsz hen fun h' st' sb => ?_
    have I1 : Inv X pins σ H { s with heap := h' } := I.turned (t' := s.toks) (fun b ob hb e => (sb.2 b hb).trans e) g0 g1 g3 g4 g5
    obtain ⟨oi, e, c, dd⟩ := id st'
    exact ⟨en.key, rfl, go_of (s := { s with heap := h' }) e c dd (by decide) ⟨.ref p.2.1, H, I1, hkey, ⟨rfl, p, hkv, rfl⟩, st', fun b hb => (hf b hb).1⟩⟩
  done := by
    intro X hP hw hK hc i pins s σ H E I hf st hg
    subst hP hw hK
    obtain ⟨hd, hi⟩ := hg
    obtain ⟨g0, g1, g2, g3, g4, g5⟩ := hf it (by simp)
    obtain ⟨hs, hgd, hx, es', ep', hdt, hsz, ent⟩ := frzN I hd
    obtain ⟨rfl, rfl⟩ := dict_ep hod hdt
    exact next_key_end (I.ok.hd hc) st hgd hdt hsz hi fun h' eb => ⟨rfl, I.turned (t' := s.toks) (fun b ob hb e => eb b ob hb e) g0 g1 g3 g4 g5⟩
  self := fun A i s Q E st h => by
    refine wpAny_pyIter_slot st.typeIs F.slot_dict_keyiterator_iter (wpAny_call_entry F.slot_dict_keyiterator_iter st.typeIs F.entry_dict_keyiterator_iter ?_ (F.args_dict_keyiterator_iter_1 _))
    show wpAny _ _ (ret (.ref it)) _ _ s
    exact wpAny_pure ⟨_, rfl, "dict_keyiterator", _, st.typeIs, F.slot_dict_keyiterator_next.lookup, h⟩
end
def iZ (P : Program) (w : World) (td : TE) : TI := fun σ H R => td σ H fun x H1 => ∃ d o kvs, x = .ref d ∧ H1 d = some (.frz o (NDict P w d kvs)) ∧ R (ItZ P w d o kvs) H1
theorem pi_z {X : Cx} {tg e : Expr} {td : TE} (he : PE X e td) : PI X tg e (iZ X.prog X.w td) := by
  refine ⟨fun pins s σ H R I h => ?_⟩
  refine thn (he.run pins s σ H _ I h) fun u s1 ⟨x, H1, I1, rx, d, o, kvs, ex, hd, q⟩ => ?_
  subst ex
  obtain rfl : u = Value.ref d := rx
  obtain ⟨hs, hgd, hx, es, ep, hdt, hsz, ent⟩ := frzN I1 hd
  refine iter_keys hs hgd hx hdt (pi_one (tk := s1.toks) I1 _ (turn_z _ hdt) ⟨_, Heap.get?_push_size _ rfl, rfl, ?_⟩ q)
  rw [hsz] <;> rfl
/-- a dict that changed till now and stands still from here on -/
theorem pi_zs {X : Cx} {tg e : Expr} {td : TE} (he : PE X e td) : PI X tg e (iZ X.prog X.w (tStill X.prog X.w td)) := pi_z (pe_still he)
theorem pe_zgetP {X : Cx} {P : Program} {w : World} {o i : Expr} {pos : Pos} {td ty : TE} (hP : X.prog = P) (hw : X.w = w) (hu : X.A.units + 64 < cLine) (ho : PE X o td) (hi : PE X i ty) (hs : NoSl i) : PE X (.Subscript o i pos) (tZGet P w td ty) := by
  subst hP hw
  exact pe_zget hu ho hi hs
theorem pi_zP {X : Cx} {P : Program} {w : World} {tg e : Expr} {td : TE} (hP : X.prog = P) (hw : X.w = w) (he : PE X e td) : PI X tg e (iZ P w td) := by
  subst hP hw
  exact pi_z he
theorem walk_z {P : Program} {w : World} {d : Addr} {o : Obj} {kvs : Ents} : Walk (ItZ P w d o kvs) kvs.length (fun H => H d = some (.frz o (NDict P w d kvs))) (fun i H x H' => H' = H ∧ ∃ p, kvs[i]? = some p ∧ x = .ref p.2.1) :=
  ⟨fun _ _ hi q => ⟨q, hi⟩, fun _ q => ⟨q, Nat.le_refl _⟩, fun _ _ _ _ _ _ y => y⟩
end KD
end L2

/-! ### list(d.items()), the keys diagrams -/
namespace L2
namespace KD
open PySem PySem.W PySem.Calls PySem.Spec PyProof.Rows
section
variable {prog : Program} {w : World} {A : Around} {E : Value → Shared → Prop} {s : Shared} {r d : Addr} {es : Array DictEntry} {ep : Nat}
theorem list_of_items {Q : Value → Shared → Prop} (hh : A.handled = none) (hv : s.heap.IsItemsView r d) (hm : DT.Raw s.heap d es ep) (hn : es.size ≤ sizeLine)
    (hQ : ∀ h' tk acc c as, (∀ b o, s.heap.get? b = some o → h'.get? b = some o) → h'.get? s.heap.objs.size = some { cls := .type "list", dict := none, data := .seq acc c, slots := #[] } → as.length = es.size → DT.Made es s.heap.objs.size h' as →
      acc.toList = as.map Value.ref → Q (.ref s.heap.objs.size) { s with heap := h', toks := tk }) :
    wpAny (model prog w) A (call (.type "list") [.ref r]) Q E s := by
  refine callType_codes (Q₁ := fun obj s₁ => obj = .ref s.heap.objs.size ∧ s₁ = { s with heap := s.heap.push { cls := .type "list", data := .seq #[] } }) PySem.F.called_list (PySem.F.typeCall_list_1 _) PySem.F.entry_list_init (code_list_new _ ⟨rfl, rfl⟩) fun obj s₁ h₁ => ?_
  obtain ⟨rfl, rfl⟩ := h₁
  have lS : (s.heap.push { cls := .type "list", data := .seq #[] }).get? s.heap.objs.size = some { cls := .type "list", data := .seq #[] } := Heap.get?_push_size _ rfl
  have lr : r < s.heap.objs.size := let ⟨_, ho, _⟩ := hv; Heap.lt_size ho
  have ld : d < s.heap.objs.size := hm.lt
  refine ⟨⟨_, lS, rfl⟩, PySem.F.args_list_init_2 _ _, ?_⟩
  have lS2 := Heap.get?_update_self (Obj.mapSeq (fun _ => (#[] : Array Value))) lS rfl
  have oth : ∀ b o, b ≠ s.heap.objs.size → s.heap.get? b = some o → ((s.heap.push { cls := .type "list", data := .seq #[] }).update s.heap.objs.size (Obj.mapSeq (fun _ => (#[] : Array Value)))).get? b = some o :=
    fun b o hb e => (Heap.get?_update_other _ _ (Ne.symm hb)).trans (Heap.get?_push_of_some _ e)
  show wpAny _ A.in1.in1 (do let old ← Builtin.List.listItems (.ref s.heap.objs.size); Builtin.List.listUpdate (.ref s.heap.objs.size) (fun _ => #[]); letGo old.toList.reverse; Builtin.List.listExtendWith (.ref s.heap.objs.size) (.ref r) .none) _ _ _
  refine wpAny_bind ?_
  unfold Builtin.List.listItems
  refine wpAny_bind (wpAny_seqItems lS rfl (wpAny_pure ?_))
  show wpAny _ _ (updateSeq s.heap.objs.size (fun _ => #[]) >>= fun _ => letGo (#[] : Array Value).toList.reverse >>= fun _ => Builtin.List.listExtendWith (.ref s.heap.objs.size) (.ref r) .none) _ _ _
  refine wpAny_bind (wpAny_updateSeq lS rfl ?_)
  refine wpAny_bind (wpAny_letGo ?_)
  refine DT.extI (A := A.in1) (es := es) (ep := ep) hh (let ⟨o, ho, x⟩ := hv; ⟨o, oth r o (Nat.ne_of_lt lr) ho, x⟩) (hm.at' fun o e => oth d o (Nat.ne_of_lt ld) e) s.heap.objs.size (Nat.ne_of_gt lr) (Nat.ne_of_lt ld) .none _ lS2 (fun h' tk acc c as hk hS' hl hG hacc => ?_) hn
  exact ⟨rfl, hQ h' tk acc c as (fun b o e => hk b o (Nat.ne_of_lt (Heap.lt_size e)) (oth b o (Nat.ne_of_lt (Heap.lt_size e)) e)) hS' hl (hG.low (Nat.le_of_lt (Heap.lt_size lS2))) hacc⟩
end
/-- the pairs tracked at their addresses -/
def putZ : Hp → List Addr → Ents → Hp
  | H, a :: as, p :: kvs => putZ (upd H a (.tup [.ref p.2.1, p.2.2])) as kvs
  | H, _, _ => H
theorem putZ_off {b : Addr} : ∀ (as : List Addr) (kvs : Ents) (H : Hp), b ∉ as → putZ H as kvs b = H b
  | [], _, _, _ => rfl
  | _ :: _, [], _, _ => rfl
  | a :: as, p :: kvs, H, h => (putZ_off as kvs _ (fun z => h (List.mem_cons_of_mem _ z))).trans (upd_ne (fun z => h (by rw [z]; exact List.mem_cons_self)))
theorem putZ_at : ∀ (as : List Addr) (kvs : Ents) (H : Hp), as.length = kvs.length → as.Nodup → Paired (fun (t : Addr) (p : DK × Addr × V) => putZ H as kvs t = some (.tup [.ref p.2.1, p.2.2])) as kvs
  | [], [], _, _, _ => .nil
  | [], _ :: _, _, h, _ => by cases h
  | _ :: _, [], _, h, _ => by cases h
  | a :: as, p :: kvs, H, h, hn => by
    obtain ⟨n1, n2⟩ := List.nodup_cons.mp hn
    refine .cons ?_ (putZ_at as kvs (upd H a (.tup [.ref p.2.1, p.2.2])) (Nat.succ.inj h) n2)
    exact (putZ_off as kvs _ n1).trans upd_same
def tItemsZ (P : Program) (w : World) (te : TE) : TE := fun σ H Q => te σ H fun x H1 => ∃ d kvs, x = .ref d ∧ Rd H1 d (NDict P w d kvs) ∧ KeysOk H1 kvs ∧
  ∀ (H' : Hp) (p : Addr) (ts : List Addr), (∀ b o, H1 b = some o → H' b = some o) → H1 p = none → (∀ t ∈ ts, H1 t = none) → ts.Nodup → p ∉ ts → H' p = some (.lst (ts.map V.ref)) → Paired (fun (t : Addr) (q : DK × Addr × V) => H' t = some (.tup [.ref q.2.1, q.2.2])) ts kvs → Q (.ref p) H'
section
variable {X : Cx} {e : Expr} {te : TE} {p apos cpos pos : Pos}
theorem laidZ {pins : List (Addr × Obj)} {σ : L2.St} {H : Hp} {s : Shared} {h' : Heap} {tk : Nat} {kvs : Ents} {xs : List (NestedKey × Addr × Value)} {es : Array DictEntry} {acc : Array Value} {c : Nat} {as : List Addr} (I : Inv X pins σ H s) (hz : kvs.length ≤ sizeLine) (rel : Rel kvs xs) (hes : es.toList = xs.map (entryOfKey (nestedKind X.prog X.w)))
    (hk : ∀ b o, s.heap.get? b = some o → h'.get? b = some o) (hS : h'.get? s.heap.objs.size = some { cls := .type "list", dict := none, data := .seq acc c, slots := #[] }) (hl : as.length = es.size) (hG : DT.Made es s.heap.objs.size h' as) (hacc : acc.toList = as.map Value.ref) :
    ∃ H' : Hp, (∀ b o, H b = some o → H' b = some o) ∧ H s.heap.objs.size = none ∧ (∀ t ∈ as, H t = none) ∧ as.Nodup ∧ s.heap.objs.size ∉ as ∧ H' s.heap.objs.size = some (.lst (as.map V.ref)) ∧ Paired (fun (t : Addr) (q : DK × Addr × V) => H' t = some (.tup [.ref q.2.1, q.2.2])) as kvs ∧ Inv X pins σ H' { s with heap := h', toks := tk } := by
  have lk : kvs.length = xs.length := Paired.length rel
  have le : es.size = xs.length := size_of_entries hes
  have hSn : s.heap.objs.size ∉ as := fun z => Nat.lt_irrefl _ (hG.above _ z)
  have nd : as.Nodup := List.Pairwise.imp (fun {a b} (h : a < b) => Nat.ne_of_lt h) hG.rise
  have new : ∀ t ∈ as, H t = none := fun t ht => I.hok.fresh (Nat.le_of_lt (hG.above t ht))
  have newS : H s.heap.objs.size = none := I.hok.fresh (Nat.le_refl _)
  have atP := putZ_at as kvs (upd H s.heap.objs.size (.lst (as.map V.ref))) (by omega) nd
  have off : ∀ b, b ∉ as → b ≠ s.heap.objs.size → putZ (upd H s.heap.objs.size (.lst (as.map V.ref))) as kvs b = H b := fun b h1 h2 => (putZ_off as kvs _ h1).trans (upd_ne h2)
  have low : ∀ b o, s.heap.get? b = some o → b ∉ as ∧ b ≠ s.heap.objs.size := fun b o e => ⟨fun z => absurd (Heap.lt_size e) (Nat.not_lt.mpr (Nat.le_of_lt (hG.above b z))), Nat.ne_of_lt (Heap.lt_size e)⟩
  have kp : ∀ b u, H b = some u → (putZ (upd H s.heap.objs.size (.lst (as.map V.ref))) as kvs) b = some u := fun b u e =>
    (off b (fun z => by rw [new b z] at e; cases e) (fun z => by rw [z, newS] at e; cases e)).trans e
  have eS : putZ (upd H s.heap.objs.size (.lst (as.map V.ref))) as kvs s.heap.objs.size = some (.lst (as.map V.ref)) := (putZ_off as kvs _ hSn).trans upd_same
  refine ⟨putZ (upd H s.heap.objs.size (.lst (as.map V.ref))) as kvs, kp, newS, new, nd, hSn, eS, atP, ?_⟩
  refine I.call' (ch := []) rfl ⟨fun b o q _ _ _ => hk b o q, fun b o q _ _ _ => ⟨o.slots, hk b o q⟩, fun b o q n _ => ?_, fun b o q _ => ⟨o, hk b o q⟩, fun b xs q => kp b _ q, fun b o u q => kp b _ q, fun b ps q => ⟨#[], by rw [kp b _ q]; simp⟩⟩ (fun b u q => ?_) I.bare fun b z => by simp at z
  · obtain ⟨z1, z2⟩ := low b o q
    rw [off b z1 z2]
    exact n
  · by_cases hb : b ∈ as
    · obtain ⟨j, pk, e1, e2, e3⟩ := LiI.paired_ix atP hb
      rw [e3] at q
      cases q
      obtain ⟨en, f1, f3⟩ := hG.pairs j b e1
      obtain ⟨qv, g1, g2, g3, g4⟩ := paired_get rel e2
      have f2 : es[j]? = some (entryOfKey (nestedKind X.prog X.w) qv) := by
        rw [← Array.getElem?_toList, hes, List.getElem?_map, g1]
        rfl
      rw [f1] at f2
      obtain rfl := Option.some.inj f2
      exact ⟨by show 2 ≤ sizeLine; decide, [.ref qv.2.1, qv.2.2], .cons (by show Value.ref _ = Value.ref _; rw [g3]) (.cons g4 .nil), ⟨_, f3, rfl, _, rfl⟩⟩
    · by_cases hb2 : b = s.heap.objs.size
      · rw [hb2] at q ⊢
        rw [eS] at q
        cases q
        refine ⟨by rw [List.length_map]; omega, acc.toList, c, by rw [hacc]; exact LiI.vals_refs as, ?_⟩
        rw [Array.toArray_toList]
        exact hS
      · rw [off b hb hb2] at q
        exact (I.hok b u q).stay (fun d v _ y => hk d v y) (fun d y => kp d _ y) fun d xs y => kp d _ y
/-- list(e.items()) -/
theorem pe_itemsZ (hc : X.calm = true) (he : PE X e te) (hg : Gl X "list") (hm : X.mg "list" = none) (hv : bootBuiltins "list" = some (.type "list")) (hbase : attributeBase e "items" X.env (eval e X.env) = eval e X.env := by rfl) (hline : (apos.endLine == cpos.line) = true := by rfl)
    (hs : starEach [.Call (.Attribute e "items" apos) [] [] cpos] X.env = (false, eval (.Call (.Attribute e "items" apos) [] [] cpos) X.env) :: starEach [] X.env := by rfl) :
    PE X (.Call (.Name "list" p) [.Call (.Attribute e "items" apos) [] [] cpos] [] pos) (tItemsZ X.prog X.w te) := by
  refine ⟨fun pins s σ H Q I hq => ?_⟩
  refine wpAny_Call_Name_kw (ld_blt I hg hm hv ?_)
  refine PyProof.Rows.callWith_type1 ?_ hs rfl
  rw [hs]
  show wpAny _ _ (spliced ((false, eval (.Call (.Attribute e "items" apos) [] [] cpos) X.env) :: backTo pos (starEach [] X.env))) _ _ s
  refine Calls.spliced_cons ?_
  refine wpAny_Call_method (T := "dict") (id := "dict.items") hbase rfl hline F.plainAttrs_dict F.slot_dict_items F.type_dict_items (thn (he.run pins s σ H _ I hq) fun u s1 ⟨x, H1, I1, rx, d, kvs, ex, hd, K, q⟩ => ?_)
  subst ex
  obtain rfl : u = Value.ref d := rx
  obtain ⟨hz, hs0, xs, rel, dd⟩ := nd_rd I1.hok hd K
  obtain ⟨ob, es, ep, h1, h2, h3, h4, _, h5⟩ := id dd
  have lk : kvs.length = xs.length := Paired.length rel
  have le : es.size = xs.length := size_of_entries h4
  have raw : DT.Raw s1.heap d es ep := ⟨ob, h1, h2, h3⟩
  have I2 : Inv X pins σ H1 { s1 with heap := s1.heap.push { cls := .type "dict_items", data := .fields #[.ref d] } } := I1.kept (t' := s1.toks) fun b ob q => Heap.get?_push_of_some _ q
  refine ⟨dd.typeIs, fun b q => by cases q; exact ⟨ob, h1, h2.2.1⟩, ?_⟩
  show wpAny _ _ (callWith cpos (.builtin "dict.items") [.ref d] [] []) _ X.xe s1
  refine method_meetsIn F.slot_dict_items F.entry_dict_items rfl (PySem.evalArgs_none ⟨rfl, dd.typeIs, F.args_dict_items_1 _, _, DT.meetsItems (es := es) (ep := ep) hs0, ⟨raw, ?_⟩⟩)
  refine Calls.spliced_nil ?_
  refine list_of_items (es := es) (ep := ep) (I1.ok.hd hc) ⟨_, Heap.get?_push_size _ rfl, rfl, rfl⟩ (raw.push _) (by omega) fun h' tk acc c as hk hS hl hG hacc => ?_
  obtain ⟨H', k1, k2, k3, k4, k5, k6, k7, J⟩ := laidZ (tk := tk) I2 hz rel h4 hk hS hl hG hacc
  exact ⟨.ref _, H', J, rfl, q H' _ as k1 k2 k3 k4 k5 k6 k7⟩
end
end KD
end L2

/-! ### {k: v for .. if ..}, the keys diagrams -/
namespace L2
namespace KD
open PySem PySem.Spec PyProof.Rows
theorem put_made {X : Cx} {pins : List (Addr × Obj)} {σ : St} {H : Hp} {s : Shared} {E : Value → Shared → Prop} {D b : Addr} {kvs : Ents} {k : DK} {v : V} {r : Value} {Q : Unit → Shared → Prop} (hu : X.A.units + 64 < cLine) (I : Inv X pins σ H s) (hD : H D = some (NDict X.prog X.w D kvs)) (K : KeysOk H kvs) (hb : IsK H k b) (hz : kvs.length < sizeLine)
    (rv : RelV v r) (h : ∀ s', Inv X pins σ (upd H D (NDict X.prog X.w D (putD kvs k b v))) s' → Q () s') : wpAny (model X.prog X.w) X.A (dictSet D (.ref b) r) Q E s := by
  obtain ⟨z, hd, xs, rel, dd⟩ := nd_of I.hok hD K
  have hx : xs.length ≤ sizeLine := by rw [← Paired.length rel]; exact z
  have hl := putD_len kvs k b v
  refine wpAny_dictSet_heap (hsz := hx) (show (nestedKind X.prog X.w).room X.A by show X.A.units + 8 < cLine; omega) (is_key I.hok hb) dd fun h' dd' hs => h _ ?_
  obtain ⟨o, _, _, ho, _⟩ := id dd'
  exact d_write I (by rw [hD]; exact True.intro) hs ⟨o, ho⟩ (nd_ok (by omega) hd (Rel.put rel k rv) dd')
section
variable {X : Cx}
/-- what a step leaves: the pair is put -/
def StepZ (P : Program) (w : World) (D : Addr) (y z : V) (H : Hp) (R : Hp → Prop) : Prop := ∃ kvs k b, y = .ref b ∧ H D = some (NDict P w D kvs) ∧ KeysOk H kvs ∧ IsK H k b ∧ kvs.length < sizeLine ∧ R (upd H D (NDict P w D (putD kvs k b z)))
def tDcZ (P : Program) (w : World) (wi : TI) (g : TG) (tt : TT) (tk tv : TE) (vs : List Nat) : TE := fun σ H Q => wi σ H fun J H1 => ∀ D, H1 D = none → ∃ W : Nat → Nat → Hp → Prop, (∃ m, W 0 m (upd H1 D (NDict P w D []))) ∧ ∀ i m H, W i m H →
  (J.stop i H ∧ Q (.ref D) H) ∨ (J.go i H ∧ ∃ Nx : Hp → Prop, (∀ H', Nx H' → ∃ m', m' < m ∧ W (i + 1) m' H') ∧ ∀ x H', J.yld i H x H' → g x (wipe σ vs) H' fun σ2 H2 => wipe σ2 vs = wipe σ vs ∧ tt σ2 H2 fun b H3 =>
    if b = true then tk σ2 H3 fun y H4 => tv σ2 H4 fun z H5 => StepZ P w D y z H5 Nx else Nx H3)
theorem coreZ {pins : List (Addr × Obj)} {s : Shared} {σ : St} {H : Hp} {Q : VK} {kx vx tg iter : Expr} {ifs : List Expr} {scope : Scope} {own : List (Str × Nat)} {pos pos' : Pos} {wi : TI} {g : TG} {tt : TT} {tk tv : TE} {use : Option (Value → Sem Unit)} {Qf : Value → Shared → Prop}
    (hu : X.A.units + 64 < cLine) (hc : X.calm = true) (hN : X.N.Nodup) (I : Inv X pins σ H s) (hi : PI X tg iter wi) (ok : BlkOk X.N X.env.scope scope own)
    (hg : ∀ (s : Shared) (H : Hp) (C : Addr) (cl : List (Str × Addr)) (fp : List Addr), PG (X.blk s H scope (compEnvC scope cl C X.env) fp) tg g) (ht : ∀ (s : Shared) (H : Hp) (C : Addr) (cl : List (Str × Addr)) (fp : List Addr), PTs (X.blk s H scope (compEnvC scope cl C X.env) fp) ifs tt)
    (hk : ∀ (s : Shared) (H : Hp) (C : Addr) (cl : List (Str × Addr)) (fp : List Addr), PE (X.blk s H scope (compEnvC scope cl C X.env) fp) kx tk)
    (he : ∀ (s : Shared) (H : Hp) (C : Addr) (cl : List (Str × Addr)) (fp : List Addr), PE (X.blk s H scope (compEnvC scope cl C X.env) fp) vx tv) (hs : ∀ x, foldedSetIterable iter X.env x = pure x)
    (h : tDcZ X.prog X.w wi g tt tk tv (own.map (·.2)) σ H Q)
    (hRR : ∀ D C s' m H', Inv X pins σ H' s' → Q (.ref D) H' → s'.heap.Ns C m → FpOk X pins H' C → compPost (model X.prog X.w) X.A X.xe use Qf (.ref D) C (.ok .next) s') :
    wpAny (model X.prog X.w) X.A (comprehension (.DictComp kx vx [⟨tg, iter, ifs, 0⟩] scope pos) scope X.env pos' newDict false (eval iter X.env) use) Qf X.xe s := by
  have hfree : ∀ y ∈ scope.names, y.2 = .free → ∃ c, X.env.cells.lookup y.1 = some c := fun y hy e => (ok.free y hy e).elim (fun k => I.ok.has _ (.inl k)) fun k => I.ok.has _ (.inr k)
  refine wpAny_comprehension_free (use := use) rfl hs (closure_ok hfree) ok.kind (fun y hy e => by rw [ok.uniq y hy, e]) (thn (hi.run pins s σ H _ I h) fun xv s1 hx => thn hx fun itv s2 h2 => ?_)
  obtain ⟨it, fp, tn, J, H2, e, I2, T, st2, f2, q⟩ := h2
  subst e
  refine wpAny_newObj_type (newEnv_comp ?_)
  generalize hD : s2.heap.objs.size = D
  have hDn : H2 D = none := I2.hok.fresh (Nat.le_of_eq hD)
  obtain ⟨W, ⟨m0, w0⟩, turn⟩ := q D hDn
  generalize hs3 : ({ s2 with heap := s2.heap.push { cls := .type "dict", data := .dict #[] } } : Shared) = s3
  have I3 : Inv X pins σ (upd H2 D (NDict X.prog X.w D [])) s3 := by
    rw [← hs3]
    refine I2.laid (t' := s2.toks) (fun b o e => Heap.get?_push_of_some _ e) (Nat.le_of_eq hD) ?_
    rw [← hD]
    exact nd_ok (Nat.zero_le _) (beq_eq_false_iff_ne.mpr (Ne.symm (Nat.ne_of_lt I2.big))) .nil (Heap.DictOfH.new s2.heap)
  have h3 : s3.heap = s2.heap.push { cls := .type "dict", data := .dict #[] } := by rw [← hs3]
  have sz : ∀ b ∈ fp, b < s2.heap.objs.size := fun b hb => let ⟨o, e, _⟩ := T.obj _ _ st2 b hb; Heap.lt_size e
  have f3 : ∀ b ∈ fp, FpOk X pins (upd H2 D (NDict X.prog X.w D [])) b ∧ b < s3.heap.objs.size := fun b hb => by
    have hlt := sz b hb
    refine ⟨⟨?_, (f2 b hb).2⟩, by rw [h3, Heap.size_push]; exact Nat.lt_succ_of_lt hlt⟩
    rw [upd_ne (by rw [← hD]; exact Nat.ne_of_lt hlt)]
    exact (f2 b hb).1
  have st3 : tn 0 s3.heap := T.keep _ _ _ st2 fun b _ o e => by rw [h3]; exact Heap.get?_push_of_some _ e
  have I4 := block_start I3 ok hN f3
  have pg := hg s3 (upd H2 D (NDict X.prog X.w D [])) s3.heap.objs.size (cellsFrom (s3.heap.objs.size + 1) scope.names (cloFrom X.env.cells scope.names [])) fp
  have pt := ht s3 (upd H2 D (NDict X.prog X.w D [])) s3.heap.objs.size (cellsFrom (s3.heap.objs.size + 1) scope.names (cloFrom X.env.cells scope.names [])) fp
  have pk := hk s3 (upd H2 D (NDict X.prog X.w D [])) s3.heap.objs.size (cellsFrom (s3.heap.objs.size + 1) scope.names (cloFrom X.env.cells scope.names [])) fp
  have pe := he s3 (upd H2 D (NDict X.prog X.w D [])) s3.heap.objs.size (cellsFrom (s3.heap.objs.size + 1) scope.names (cloFrom X.env.cells scope.names [])) fp
  show codeAny _ _ (.compStart (.DictComp kx vx [⟨tg, iter, ifs, 0⟩] scope pos) 0 (.ref it) (.ref D) (compEnvC scope (cellsFrom (s3.heap.objs.size + 1) scope.names (cloFrom X.env.cells scope.names [])) s3.heap.objs.size X.env)) (compPost (model X.prog X.w) X.A X.xe use Qf (.ref D) s3.heap.objs.size) { s3 with heap := pushCells (s3.heap.push { cls := .type "dict", data := .dict #[] }) scope.names }
  have nfp : ∀ b ∈ fp, (upd H2 D (NDict X.prog X.w D [])) b = none := fun b hb => (f3 b hb).1.1
  generalize hce : compEnvC scope (cellsFrom (s3.heap.objs.size + 1) scope.names (cloFrom X.env.cells scope.names [])) s3.heap.objs.size X.env = ce at I4 pg pt pk pe ⊢
  have cL : ce.locals = s3.heap.objs.size := by subst hce; rfl
  generalize hH3 : upd H2 D (NDict X.prog X.w D []) = H3 at I3 I4 pg pt pk pe w0 nfp f3
  generalize hs4 : ({ s3 with heap := pushCells (s3.heap.push { cls := .type "dict", data := .dict #[] }) scope.names } : Shared) = s4 at I4 ⊢
  have st4 : tn 0 s4.heap := T.keep _ _ _ st3 fun b _ o e => by rw [← hs4]; exact pushCells_keeps _ _ _ _ (Heap.get?_push_of_some _ e)
  have stat : ∀ {σ' : St} {H' : Hp} {s' : Shared}, Inv (X.blk s3 H3 scope ce fp) [] σ' H' s' → (∀ b ∈ fp, H' b = none) → ∀ b ∈ fp, FpOk (X.blk s3 H3 scope ce fp) [] H' b := fun {σ' H' s'} I' hn b hb =>
    ⟨hn b hb, (I'.ok.exf b hb).1, I'.ok.exfs b hb, .inl hb, fun x c e => (I'.ok.exf b hb).2 x c e, fun p hp => absurd (show p ∈ ([] : List (Addr × Obj)) ++ [] from hp) (by simp)⟩
  have loop : codeAny (model X.prog X.w) X.A (.compLoop (.DictComp kx vx [⟨tg, iter, ifs, 0⟩] scope pos) 0 (.ref it) (.ref D) ce) (compPost (model X.prog X.w) X.A X.xe use Qf (.ref D) s3.heap.objs.size) s4 := by
    refine compLoop_anyD (fun n s' => ∃ i H', Inv (X.blk s3 H3 scope ce fp) [] (wipe σ (own.map (·.2))) H' s' ∧ tn i s'.heap ∧ (∀ b ∈ fp, H' b = none) ∧ W i n H') ?_ m0 ⟨0, H3, I4, st4, nfp, w0⟩
    rintro n s5 ⟨i, H5, I5, st5, n5, w5⟩
    rcases turn i n H5 w5 with ⟨stop, qq⟩ | ⟨go, Nx, hNx, step⟩
    · have td := T.done (X.blk s3 H3 scope ce fp) rfl rfl rfl hc i [] s5 _ H5 (fun _ _ => False) I5 (stat I5 n5) st5 stop
      refine thnF td fun r s6 ⟨hr, I6⟩ => ?_
      subst hr
      have I7 : Inv X pins σ H5 s6 := I3.call' (ch := fp) I6.os I6.base I6.hok I6.bare fun b hb => ⟨(f3 b hb).1.2.2.2.1, (f3 b hb).1.2.1, (f3 b hb).1.2.2.2.2.1, (f3 b hb).1.2.2.2.2.2⟩
      have nC : H5 s3.heap.objs.size = none := by
        have z : H5 ce.locals = none := I6.free
        rwa [cL] at z
      obtain ⟨m, hn, _⟩ := I6.loc
      have hn : s6.heap.Ns ce.locals m := hn
      rw [cL] at hn
      exact hRR D s3.heap.objs.size s6 m H5 I7 qq hn (I3.fpOk (Nat.le_refl _) nC)
    · have ti := T.item (X.blk s3 H3 scope ce fp) rfl rfl rfl hc i [] s5 _ H5 (fun _ _ => False) I5 (stat I5 n5) st5 go
      refine thnF ti fun r s6 ⟨u, hr, h6⟩ => ?_
      subst hr
      refine thnF h6 fun _ s7 ⟨x, H7, I7, r7, y7, st7, n7⟩ => ?_
      have I7' := I7.pinned (stat I7 n7) (T.obj _ _ st7)
      refine thnF (pg.run _ s7 _ H7 x u _ I7' r7 (step x H7 y7)) fun _ s8 ⟨σ8, H8, I8, hw8, q8⟩ => ?_
      refine thnF (pt.run _ s8 σ8 H8 _ I8 q8) fun b s9 ⟨H9, I9, q9⟩ => ?_
      have fin : ∀ {s' : Shared} {H' : Hp}, Inv (X.blk s3 H3 scope ce fp) ([] ++ pinsAt fp s7.heap) σ8 H' s' → Nx H' → ∃ m, m < n ∧ ∃ i H', Inv (X.blk s3 H3 scope ce fp) [] (wipe σ (own.map (·.2))) H' s' ∧ tn i s'.heap ∧ (∀ b ∈ fp, H' b = none) ∧ W i m H' := fun {s' H'} I' nx => by
        obtain ⟨m', hm, w'⟩ := hNx H' nx
        have pin' : ∀ b ∈ fp, ∀ o, s7.heap.get? b = some o → s'.heap.get? b = some o ∧ H' b = none := fun b hb o e =>
          let z := I'.pin (b, o) (List.mem_append_right _ (List.mem_append_right _ (mem_pinsAt hb e)))
          ⟨z.1, z.2.1⟩
        have hl : (wipe σ (own.map (·.2))).length = σ8.length := by rw [← hw8, wipe_length]
        refine ⟨m', hm, i + 1, H', (I'.unpinned (pins := [])).weak hl (fun j v e => ?_), T.keep _ _ _ st7 fun b hb o e => (pin' b hb o e).1, fun b hb => ?_, w'⟩
        · rw [← hw8] at e
          exact (wipe_some e).1
        · obtain ⟨o, e, _⟩ := T.obj _ _ st7 b hb
          exact (pin' b hb o e).2
      cases b with
      | false =>
        simp only [Bool.false_eq_true, if_false] at q9 ⊢
        exact fin I9 q9
      | true =>
        simp only [if_true] at q9 ⊢
        refine thnF (pk.run _ s9 σ8 H9 _ I9 q9) fun z s10 ⟨yk, H10, I10, r10, q10⟩ => ?_
        refine thnF (pe.run _ s10 σ8 H10 _ I10 q10) fun z2 s11 ⟨yv, H11, I11, r11, kvs, k, kb, ek, hD11, K11, hb11, hz11, nx⟩ => ?_
        subst ek
        obtain rfl : z = Value.ref kb := r10
        exact put_made (X := X.blk s3 H3 scope ce fp) hu I11 hD11 K11 hb11 hz11 r11 fun s12 I12 => fin I12 nx
  exact codeAny_compStart_dict loop (T.self X.A 0 _ _ _ st4 loop)
theorem pe_dcz {kx vx tg iter : Expr} {ifs : List Expr} {scope : Scope} {own : List (Str × Nat)} {pos : Pos} {wi : TI} {g : TG} {tt : TT} {tk tv : TE} (hu : X.A.units + 64 < cLine) (hc : X.calm = true) (hN : X.N.Nodup) (hi : PI X tg iter wi) (ok : BlkOk X.N X.env.scope scope own)
    (hg : ∀ (s : Shared) (H : Hp) (C : Addr) (cl : List (Str × Addr)) (fp : List Addr), PG (X.blk s H scope (compEnvC scope cl C X.env) fp) tg g) (ht : ∀ (s : Shared) (H : Hp) (C : Addr) (cl : List (Str × Addr)) (fp : List Addr), PTs (X.blk s H scope (compEnvC scope cl C X.env) fp) ifs tt)
    (hk : ∀ (s : Shared) (H : Hp) (C : Addr) (cl : List (Str × Addr)) (fp : List Addr), PE (X.blk s H scope (compEnvC scope cl C X.env) fp) kx tk)
    (he : ∀ (s : Shared) (H : Hp) (C : Addr) (cl : List (Str × Addr)) (fp : List Addr), PE (X.blk s H scope (compEnvC scope cl C X.env) fp) vx tv) (hs : ∀ x, foldedSetIterable iter X.env x = pure x := by intro _; rfl) :
    PE X (.DictComp kx vx [⟨tg, iter, ifs, 0⟩] scope pos) (tDcZ X.prog X.w wi g tt tk tv (own.map (·.2))) := by
  refine ⟨fun pins s σ H Q I h => ?_⟩
  rw [arm_eval_DictComp]
  refine coreZ hu hc hN I hi ok hg ht hk he hs h fun D C s' m H' I' q hn f => ⟨m, hn, fun h'' sb => ?_⟩
  obtain ⟨f0, f1, f2, f3, f4, f5⟩ := f
  exact ⟨.ref D, H', I'.turned (t' := s'.toks) (fun b o hb e => (sb.2 b hb).trans e) f0 f1 f3 f4 f5, rfl, q⟩
end
/-- over any walk -/
theorem dcz_it {P : Program} {w : World} {J : It} {n : Nat} {G : Hp → Prop} {Y : Nat → Hp → V → Hp → Prop} (wk : Walk J n G Y) {g : TG} {tt : TT} {tk tv : TE} {vs : List Nat} {σ : St} {H1 : Hp} {D : Addr} {Qd : Hp → Prop} (Pv : Nat → Hp → Prop) (h0 : Pv 0 (upd H1 D (NDict P w D []))) (hG : ∀ i H, i ≤ n → Pv i H → G H)
    (hs : ∀ i x H H', i < n → Pv i H → Y i H x H' → g x (wipe σ vs) H' fun σ2 H2 => wipe σ2 vs = wipe σ vs ∧ tt σ2 H2 fun b H3 => if b = true then tk σ2 H3 fun y H4 => tv σ2 H4 fun z H5 => StepZ P w D y z H5 (Pv (i + 1)) else Pv (i + 1) H3) (hd : ∀ H, Pv n H → Qd H) :
    ∃ W : Nat → Nat → Hp → Prop, (∃ m, W 0 m (upd H1 D (NDict P w D []))) ∧ ∀ i m H, W i m H →
      (J.stop i H ∧ Qd H) ∨ (J.go i H ∧ ∃ Nx : Hp → Prop, (∀ H', Nx H' → ∃ m', m' < m ∧ W (i + 1) m' H') ∧ ∀ x H', J.yld i H x H' → g x (wipe σ vs) H' fun σ2 H2 => wipe σ2 vs = wipe σ vs ∧ tt σ2 H2 fun b H3 =>
        if b = true then tk σ2 H3 fun y H4 => tv σ2 H4 fun z H5 => StepZ P w D y z H5 Nx else Nx H3) := by
  refine ⟨fun i m H => m = n - i ∧ i ≤ n ∧ Pv i H, ⟨n, (Nat.sub_zero n).symm, Nat.zero_le _, h0⟩, ?_⟩
  rintro i m H ⟨rfl, hi, p⟩
  have q := hG i H hi p
  by_cases hlt : i < n
  · exact .inr ⟨wk.goes i H hlt q, Pv (i + 1), fun H' p' => ⟨n - (i + 1), by omega, rfl, hlt, p'⟩, fun x H' y => hs i x H H' hlt p (wk.yields i H x H' hlt q y)⟩
  · obtain rfl : i = n := by omega
    exact .inl ⟨wk.stops H q, hd H p⟩
end KD
end L2

/-! ### two dicts with diagrams as keys compared -/
namespace L2
namespace KD
open PySem PySem.Spec PyProof.Rows
section
variable {prog : Program} {w : World} {K : Type} [DecidableEq K] {knd : HeapKind prog w K} {A : Around} {E : Value → Shared → Prop} {s : Shared}
/-- the values of the one, each held against what the other holds there -/
inductive Hits (A : Around) (s : Shared) (xb : List (K × Addr × Value)) : List (K × Addr × Value) → Bool → Prop
  | nil : Hits A s xb [] true
  | miss {p : K × Addr × Value} {r : List (K × Addr × Value)} : atKey xb p.1 = none → Hits A s xb (p :: r) false
  | hit {p : K × Addr × Value} {y : Addr × Value} {r : List (K × Addr × Value)} {e b : Bool} : atKey xb p.1 = some y → SeqAt.EqAt A s p.2.2 y.2 e → Hits A s xb r b → Hits A s xb (p :: r) (e && b)
theorem Hits.inv {xb : List (K × Addr × Value)} {p : K × Addr × Value} {r : List (K × Addr × Value)} {b : Bool} (h : Hits A s xb (p :: r) b) :
    (atKey xb p.1 = none ∧ b = false) ∨ ∃ y e b', atKey xb p.1 = some y ∧ SeqAt.EqAt A s p.2.2 y.2 e ∧ Hits A s xb r b' ∧ b = (e && b') := by
  cases h with
  | miss hn => exact .inl ⟨hn, rfl⟩
  | hit hy he hr => exact .inr ⟨_, _, _, hy, he, hr, rfl⟩
theorem samePairsH {nm : String} {a b : Addr} {xa xb : List (K × Addr × Value)} {r : Bool} {Q : Bool → Shared → Prop} (hu : knd.room A) (ha : (a == sysModules) = false) (hb : (b == sysModules) = false)
    (da : s.heap.DictOfH knd a xa) (db : s.heap.DictOfH knd b xb) (hits : xa.length = xb.length → Hits A s xb xa r) (h : Q (xa.length == xb.length && r) s) :
    wpAny (model prog w) A (Builtin.Dict.samePairs nm a b) Q E s := by
  obtain ⟨oa, es, ep, hoa, _, hda, hea, hia, hna⟩ := da
  obtain ⟨ob, es', ep', hob, _, hdb, heb, hib, hnb⟩ := db
  have hla : xa.length = es.size := (size_of_entries hea).symm
  have hlb : xb.length = es'.size := (size_of_entries heb).symm
  rw [hla, hlb] at h
  unfold Builtin.Dict.samePairs Builtin.Dict.showsAll
  rw [if_neg (show ¬ (a == sysModules) = true by rw [ha]; exact Bool.false_ne_true), if_neg (show ¬ (b == sysModules) = true by rw [hb]; exact Bool.false_ne_true)]
  refine wpAny_bind (wpAny_pure (wpAny_bind (wpAny_pure ?_)))
  refine wpAny_bind (wpAny_dictEntries hoa hda ?_)
  dsimp only
  refine wpAny_bind (wpAny_dictEntries hob hdb ?_)
  by_cases hsz : es.size = es'.size
  case neg =>
    rw [if_pos (by simpa using hsz)]
    have hbf : (es.size == es'.size) = false := by simpa using hsz
    rw [hbf, Bool.false_and] at h
    exact wpAny_bind (wpAny_rule (wpAny_pure h))
  case pos =>
    have h' : Q r s := by simpa [hsz] using h
    have hits' := hits (by rw [hla, hlb]; exact hsz)
    rw [if_neg (by rw [hsz]; simp)]
    refine wpAny_bind (wpAny_dictEpoch hoa hda ?_)
    refine wpAny_bind ?_
    rw [Std.Legacy.Range.forIn_eq_forIn_range']
    simp only [Std.Legacy.Range.size, Nat.sub_zero, Nat.add_sub_cancel, Nat.div_one]
    refine wpAny_forIn_list _ (fun rest q s' => s' = s ∧ q = (none, ()) ∧ ∃ i, rest = List.range' i (es.size - i) ∧ i ≤ es.size ∧ Hits A s xb (xa.drop i) r) _ ?_ ?_ _ _ ⟨rfl, rfl, 0, by simp, Nat.zero_le _, hits'⟩
    · rintro x rest q s' ⟨rfl, rfl, i, hr, hi, hpre⟩
      have hlt : i < es.size := by
        rcases Nat.lt_or_ge i es.size with h | h
        · exact h
        · rw [Nat.sub_eq_zero_of_le h] at hr; simp at hr
      obtain ⟨rfl, hrest⟩ : x = i ∧ rest = List.range' (i + 1) (es.size - (i + 1)) := by
        have e : es.size - i = (es.size - (i + 1)) + 1 := by omega
        rw [e, List.range'_succ] at hr
        injection hr with h1 h2
        exact ⟨h1, h2⟩
      have hlt' : x < xa.length := by rw [hla]; exact hlt
      have een : es[x] = entryOfKey knd xa[x] := by
        have q := entry_at hea x
        rw [Array.getElem?_eq_getElem hlt, List.getElem?_eq_getElem hlt'] at q
        exact Option.some.inj q
      have hdrop : xa.drop x = xa[x] :: xa.drop (x + 1) := List.drop_eq_getElem_cons hlt'
      have hkey := hia xa[x] (List.getElem_mem hlt')
      refine wpAny_bind (wpAny_dictEntries hoa hda ?_)
      rw [Array.getElem?_eq_getElem hlt, een]
      rw [hdrop] at hpre
      generalize xa[x] = p at hpre hkey
      show wpAny _ _ (holding [(entryOfKey knd p).key, (entryOfKey knd p).val] _ >>= _) _ _ _
      refine wpAny_bind (wpAny_holding (wpAny_bind (wpAny_dictFind_heap hu hkey hob hdb heb hib hnb (fun hno => ?_) fun j y hj => ?_)))
      · rcases hpre.inv with ⟨_, er⟩ | ⟨y, _, _, hy, _⟩
        · rw [er] at h'
          refine wpAny_pure ?_
          show wpAny _ _ (if (!false) = true then _ else _) _ _ _
          rw [if_pos (by decide)]
          exact wpAny_pure (wpAny_pure h')
        · rw [atKey_none_of_get hno] at hy; exact nomatch hy
      · have hv' := atKey_of_get hnb hj
        refine wpAny_bind (wpAny_dictEntries hob hdb ?_)
        rw [entry_at heb j, hj]
        rcases hpre.inv with ⟨hn, _⟩ | ⟨y', e, b', hy, he, hrr, er⟩
        · rw [hv'] at hn; exact nomatch hn
        · obtain rfl := Option.some.inj (hv'.symm.trans hy)
          refine wpAny_holding (he prog w _ _ ?_)
          cases e with
          | false =>
            rw [er, Bool.false_and] at h'
            show wpAny _ _ (if (!false) = true then _ else _) _ _ _
            rw [if_pos (by decide)]
            exact wpAny_pure (wpAny_pure h')
          | true =>
            rw [Bool.true_and] at er
            rw [← er] at hrr
            show wpAny _ _ (if (!true) = true then _ else _) _ _ _
            rw [if_neg (by decide)]
            refine wpAny_bind (wpAny_dictEpoch hoa hda ?_)
            rw [if_neg (by simp)]
            exact wpAny_pure ⟨rfl, rfl, x + 1, hrest, hlt, hrr⟩
    · rintro q s' ⟨rfl, rfl, i, hr, hi, hpre⟩
      have hin : i = es.size := by
        rcases Nat.lt_or_ge i es.size with h | h
        · have e : es.size - i = (es.size - (i + 1)) + 1 := by omega
          rw [e, List.range'_succ] at hr; exact nomatch hr
        · exact Nat.le_antisymm hi h
      refine wpAny_pure ?_
      rw [hin, ← hla, List.drop_length] at hpre
      cases hpre
      exact h'
theorem eqH {a b : Addr} {xa xb : List (K × Addr × Value)} {r : Bool} {Q : Value → Shared → Prop} (hr : knd.room A.in1) (ha : (a == sysModules) = false) (hb : (b == sysModules) = false)
    (da : s.heap.DictOfH knd a xa) (db : s.heap.DictOfH knd b xb) (hu : A.units < cLine) (hits : xa.length = xb.length → Hits A.in1 s xb xa r) (h : Q (.bool (xa.length == xb.length && r)) s) :
    wpAny (model prog w) A (compareOp .Eq (.ref a) (.ref b)) Q E s := by
  refine wpAny_richCompare_same_room (op := .Eq) da.typeIs db.typeIs PySem.F.slot_dict_eq (wpAny_call_entry PySem.F.slot_dict_eq da.typeIs PySem.F.entry_dict_eq ?_ (PySem.F.args_dict_eq_2 _ _)) hu
  show wpAny _ _ (Builtin.Dict.dictSlotArgs "__eq__" ⟨[.ref a, .ref b], []⟩ >>= _) _ _ s
  refine wpAny_bind ?_
  unfold Builtin.Dict.dictSlotArgs
  refine wpAny_bind (wpAny_notOrdered_dict da.typeIs ?_)
  show wpAny _ _ (pure (Value.ref a, Value.ref b)) _ _ s
  refine wpAny_pure ?_
  refine wpAny_bind (wpAny_isInstance (T := "dict") db.typeIs PySem.F.sub_dict_dict ?_)
  simp only [Bool.not_true, Bool.false_eq_true, if_false]
  refine wpAny_bind (wpAny_pure (wpAny_bind (wpAny_pure ?_)))
  refine wpAny_bind (samePairsH hr ha hb da db hits ?_)
  refine wpAny_pure ⟨_, rfl, ?_, ?_⟩
  · exact fun x => nomatch x
  · simpa using h
end
def findD (kvs : Ents) (k : DK) : Option (DK × Addr × V) := kvs.find? fun p => decide (p.1 = k)
/-- what == says: as many, and each value equal to the other's -/
def sameZ (ka kb : Ents) (fa fb : DK × Addr × V → PyData) : Bool := decide (ka.length = kb.length) && ka.all fun p => match findD kb p.1 with | none => false | some q => PyData.eqv (fa p) (fb q)
def ValsZ (K : PySem.W.Frag) (H : Hp) (ks : Ents) (f : DK × Addr × V → PyData) : Prop := ∀ p ∈ ks, Dp K H p.2.2 (f p) ∧ SeqAt.shaped (f p) = true
def rZEq (P : Program) (w : World) (K : PySem.W.Frag) : R2 := fun x y H Q => ∃ a b ka kb fa fb, x = .ref a ∧ y = .ref b ∧ Rd H a (NDict P w a ka) ∧ KeysOk H ka ∧ Rd H b (NDict P w b kb) ∧ KeysOk H kb ∧ ValsZ K H ka fa ∧ ValsZ K H kb fb ∧ Q (.bl (sameZ ka kb fa fb)) H
theorem find_rel {kvs : Ents} {xs : List (NestedKey × Addr × Value)} (r : Rel kvs xs) (k : DK) : match findD kvs k with | none => atKey xs (key k) = none | some q => q ∈ kvs ∧ ∃ z, atKey xs (key k) = some z ∧ RelV q.2.2 z.2 := by
  induction r with
  | nil => rfl
  | @cons p q ps qs h t ih =>
    obtain ⟨h1, _, h2⟩ := h
    unfold findD at ih ⊢
    by_cases e : p.1 = k
    · have e' : q.1 = key k := by rw [h1, e]
      rw [List.find?_cons_of_pos (by rw [decide_eq_true e])]
      exact ⟨.head _, q.2, by simp [atKey, List.find?_cons, e'], h2⟩
    · have e' : ¬ q.1 = key k := fun z => e (key_inj (h1.symm.trans z))
      have b : atKey (q :: qs) (key k) = atKey qs (key k) := by simp [atKey, List.find?_cons, e']
      rw [List.find?_cons_of_neg (by rw [decide_eq_false e]; exact Bool.false_ne_true), b]
      cases hf : ps.find? fun p => decide (p.1 = k) with
      | none => rw [hf] at ih; exact ih
      | some z =>
        rw [hf] at ih
        exact ⟨.tail _ ih.1, ih.2⟩
theorem hits_of {X : Cx} {pins : List (Addr × Obj)} {σ : St} {H : Hp} {s : Shared} (I : Inv X pins σ H s) (hu : X.A.in1.units + 64 < cLine) {kb : Ents} {xb : List (NestedKey × Addr × Value)} (rb : Rel kb xb) {fa fb : DK × Addr × V → PyData} (vb : ValsZ X.K H kb fb) : ∀ {ka : Ents} {xa : List (NestedKey × Addr × Value)}, Rel ka xa → ValsZ X.K H ka fa →
    Hits X.A.in1 s xb xa (ka.all fun p => match findD kb p.1 with | none => false | some q => PyData.eqv (fa p) (fb q))
  | _, _, .nil, _ => .nil
  | p :: ps, q :: qs, .cons h t, va => by
    obtain ⟨h1, _, h2⟩ := h
    have ih := hits_of I hu rb vb t fun z hz => va z (.tail _ hz)
    have fr := find_rel rb p.1
    rw [List.all_cons]
    cases hf : findD kb p.1 with
    | none =>
      rw [hf] at fr
      show Hits _ _ _ _ (false && _)
      rw [Bool.false_and]
      exact .miss (by rw [h1]; exact fr)
    | some z =>
      rw [hf] at fr
      obtain ⟨mz, y, hy, ry⟩ := fr
      obtain ⟨da, sa⟩ := va p (.head _)
      obtain ⟨db, sb⟩ := vb z mz
      obtain ⟨as, r1⟩ := Dp.reads I (fa p) _ _ da h2
      obtain ⟨bs, r2⟩ := Dp.reads I (fb z) _ _ db ry
      exact .hit (by rw [h1]; exact hy) (PySem.W.keq_at r1 r2 sa sb hu) ih
theorem op_zeq {X : Cx} (hu : X.A.units + 65 < cLine) : OpR X (compareOp .Eq) (rZEq X.prog X.w X.K) := by
  intro pins s σ H x y v u Q I rx ry h
  obtain ⟨a, b, ka, kb, fa, fb, rfl, rfl, ha, Ka, hb, Kb, va, vb, q⟩ := h
  cases rx
  cases ry
  obtain ⟨_, ya, xa, ra, da⟩ := nd_rd I.hok ha Ka
  obtain ⟨_, yb, xb, rb, db⟩ := nd_rd I.hok hb Kb
  have la := Paired.length ra
  have lb := Paired.length rb
  refine eqH (knd := nestedKind X.prog X.w) (r := ka.all fun p => match findD kb p.1 with | none => false | some q => PyData.eqv (fa p) (fb q)) (room_in1 (by omega)) ya yb da db (by omega) (fun _ => hits_of I (by show X.A.units + 1 + 64 < cLine; omega) rb vb ra va) ?_
  have e : (xa.length == xb.length && ka.all fun p => match findD kb p.1 with | none => false | some q => PyData.eqv (fa p) (fb q)) = sameZ ka kb fa fb := by
    unfold sameZ
    rw [← la, ← lb]
    congr 1
  rw [e]
  exact ⟨.bl _, H, I, rfl, q⟩
end KD
end L2

/-! ### dict(d), the keys diagrams; their hashes -/
namespace L2
namespace KD
open PySem PySem.Spec PyProof.Rows
def hashB (b : List Int) : Int := reduceHash (Builtin.Tuple.tupleHashOf (b.map hashInt))
def hashK (k : DK) : Int := reduceHash (Builtin.Tuple.tupleHashOf [hashInt k.1, hashInt k.2.1, reduceHash (Builtin.Tuple.tupleHashOf (k.2.2.map hashB))])
theorem hash_nums (w : World) : ∀ b : List Int, NestedKey.hashes w (b.map NestedKey.num) = b.map hashInt
  | [] => by simp [NestedKey.hashes]
  | x :: b => by simp [NestedKey.hashes, NestedKey.hash, hash_nums w b]
theorem hash_b (w : World) (b : List Int) : NestedKey.hash w (nums b) = hashB b := by
  unfold nums hashB
  simp [NestedKey.hash, hash_nums w b]
theorem hash_bs (w : World) : ∀ bs : List (List Int), NestedKey.hashes w (bs.map nums) = bs.map hashB
  | [] => by simp [NestedKey.hashes]
  | b :: bs => by simp [NestedKey.hashes, hash_b w b, hash_bs w bs]
theorem hash_key (P : Program) (w : World) (k : DK) : (nestedKind P w).hash (key k) = hashK k := by
  show NestedKey.hash w (key k) = hashK k
  unfold key hashK
  simp [NestedKey.hash, NestedKey.hashes, hash_bs w k.2.2]
theorem rel_hash {P : Program} {w : World} {kvs : Ents} {xs : List (NestedKey × Addr × Value)} (r : Rel kvs xs) : (xs.map fun x => (nestedKind P w).hash x.1) = kvs.map fun p => hashK p.1 := by
  induction r with
  | nil => rfl
  | @cons p q ps qs h t ih =>
    rw [List.map_cons, List.map_cons, ih, h.1, hash_key]
section
variable {prog : Program} {w : World} {A : Around} {E : Value → Shared → Prop} {s : Shared}
theorem dict_ofH {o : Addr} {more : List (NestedKey × Addr × Value)} {Q : Value → Shared → Prop} (hu : (nestedKind prog w).room A.in1.in1) (hoS : (o == sysModules) = false) (ho : s.heap.DictOfH (nestedKind prog w) o more) (hap : (more.map fun x => (nestedKind prog w).hash x.1).Nodup) (hty : ∀ x ∈ more, s.TypeIs (.ref x.2.1) "tuple") (hsz : more.length ≤ sizeLine)
    (h : ∀ h', h'.DictOfH (nestedKind prog w) s.heap.objs.size more → Heap.SameBut s.heap.objs.size (s.heap.push { cls := .type "dict", data := .dict #[] }) h' → Q (.ref s.heap.objs.size) { s with heap := h' }) :
    wpAny (model prog w) A (call (.type "dict") [.ref o]) Q E s := by
  refine callType_codes (Q₁ := fun obj s₁ => obj = .ref s.heap.objs.size ∧ s₁ = { s with heap := s.heap.push { cls := .type "dict", data := .dict #[] } }) F.kt_called_dict (F.kt_typeCall_dict_1 _) F.entry_dict_init (kt_code_dict_new _ ⟨rfl, rfl⟩) ?_
  rintro obj s₁ ⟨rfl, rfl⟩
  have hnew : (s.heap.push { cls := .type "dict", data := .dict #[] }).DictOfH (nestedKind prog w) s.heap.objs.size [] := Heap.DictOfH.new s.heap
  have hn : (more.map (·.1)).Nodup := let ⟨_, _, _, _, _, _, _, _, hn⟩ := ho; hn
  have hdo : s.heap.objs.size ≠ o := by
    obtain ⟨_, _, _, hg, _⟩ := ho
    exact fun e => absurd (Heap.lt_size hg) (by rw [e]; exact Nat.lt_irrefl _)
  have ho' : (s.heap.push { cls := .type "dict", data := .dict #[] }).DictOfH (nestedKind prog w) o more := by
    obtain ⟨ob, es, ep, h1, h2, h3, h4, h5, h6⟩ := ho
    exact ⟨ob, es, ep, Heap.get?_push_of_some _ h1, h2, h3, h4, fun x hx => nestedKind_stays.stays (fun b o _ _ e _ => Heap.get?_push_of_some _ e) (h5 x hx), h6⟩
  refine ⟨hnew.typeIs, F.args_dict_init_2 _ _, ?_⟩
  unfold Builtin.«dict.__init__»
  refine wpAny_bind ?_
  unfold Builtin.Dict.selfAndRest
  refine wpAny_bind (wpAny_notOrdered_dict hnew.typeIs ?_)
  show wpAny _ _ (pure (s.heap.objs.size, [Value.ref o])) _ _ _
  refine wpAny_pure ?_
  refine updateFrom_dictH (A := A.in1) (nm := "dict.__init__") .none hu hdo hoS hnew ho' (.inr ⟨fun x hx => ?_, hap⟩) (by simpa using hsz) fun h' hd' _ hs' => ?_
  · obtain ⟨ob, h1, h2⟩ := hty x hx
    exact ⟨ob, Heap.get?_push_of_some _ h1, h2⟩
  · rw [storedAllH_nil_of_nodup more hn] at hd'
    exact ⟨rfl, h h' hd' hs'⟩
end
section
variable {X : Cx}
def rZCopy (P : Program) (w : World) : List V → Hp → VK → Prop := fun xs H Q => ∃ (a : Addr) (kvs : Ents), xs = [.ref a] ∧ Rd H a (NDict P w a kvs) ∧ KeysOk H kvs ∧ (kvs.map fun p => hashK p.1).Nodup ∧ ∀ p, H p = none → Q (.ref p) (upd H p (NDict P w p kvs))
theorem call_zcopy (hu : X.A.units + 65 < cLine) : CallR X (.type "dict") (rZCopy X.prog X.w) := by
  intro pins s σ H xs us Q I r h
  obtain ⟨a, kvs, rfl, ha, K, nd, q⟩ := h
  obtain ⟨u, rfl, rx⟩ := vals1 r
  obtain rfl : u = .ref a := rx
  obtain ⟨z, hd, ys, rel, dd⟩ := nd_rd I.hok ha K
  have hl : kvs.length = ys.length := Paired.length rel
  refine dict_ofH (by show X.A.units + 1 + 1 + 8 < cLine; omega) hd dd (by rw [rel_hash rel]; exact nd) (fun x hx => ?_) (by omega) fun h' dd' hs => ?_
  · exact nestedKind_stays.tuple (Rel.keys I.hok rel K x hx)
  · refine ⟨.ref s.heap.objs.size, _, I.laid (a := s.heap.objs.size) (o := NDict X.prog X.w s.heap.objs.size kvs) (t' := s.toks) (fun b q hq => ?_) (Nat.le_refl _) (nd_ok z (beq_eq_false_iff_ne.mpr (Ne.symm (Nat.ne_of_lt I.big))) rel dd'), rfl, q _ (I.hok.fresh (Nat.le_refl _))⟩
    exact (hs.2 b (Nat.ne_of_lt (Heap.lt_size hq))).trans (Heap.get?_push_of_some _ hq)
end
end KD
end L2

/-! ### own instances: made in a try, their operators, len, bool -/
namespace L2
open PySem PySem.Spec PyProof.Rows
section
variable {X : Cx} {CX : CXT} {k : Nat} {C f : Addr} {fd : FuncData} {ps : List Str} {sp : Sp} {x : Str} {p pos : Pos} {e : Expr} {es : List Expr} {t : TA}
/-- C(e, ..) in a try -/
def tMakeS (C : Addr) (sp : Sp) (E : St → XK) (t : TA) : TE := fun σ H Q => t σ H fun vs H1 => ∀ x dx, H1 x = none → H1 dx = none → dx ≠ x → sp (.ref x :: vs) (upd (upd H1 dx (.own x)) x (.ins C dx [])) (fun v H2 => v = .non ∧ Q (.ref x) H2) (E σ)
theorem run_makeS {E : XK} {pins : List (Addr × Obj)} {σ : St} {H : Hp} {s : Shared} {Q : VK} {us : List Value} {vs : List V} (M : Mk X.K C f) (F : FnOk X.prog X.w X.K X.mg X.base CX k f fd ps sp) (hr : Room (k + 1) X.A) (hb : Binds X.K fd ps [])
    (hx : PassesAt CX X σ E) (I : Inv X pins σ H s) (r : Vals vs us)
    (h : ∀ x dx, H x = none → H dx = none → dx ≠ x → sp (.ref x :: vs) (upd (upd H dx (.own x)) x (.ins C dx [])) (fun v H2 => v = .non ∧ Q (.ref x) H2) E) :
    wpAny (model X.prog X.w) X.A (call (.ref C) us) (EP X pins σ Q) X.xe s := by
  have hq := h (s.heap.objs.size + 1) s.heap.objs.size (I.hok.fresh (Nat.le_succ _)) (I.hok.fresh (Nat.le_refl _)) (Nat.ne_of_lt (Nat.lt_succ_self _))
  have I2 := Inv.made (C := C) I
  have r2 : Vals (V.ref (s.heap.objs.size + 1) :: vs) (Value.ref (s.heap.objs.size + 1) :: us) := .cons rfl r
  have hl : (Value.ref (s.heap.objs.size + 1) :: us).length = ps.length := r2.length.symm.trans (F.len _ _ _ _ hq)
  have b := hb _ (Value.ref (s.heap.objs.size + 1) :: us) I2.kIn (by rw [List.append_nil]; exact hl)
  rw [List.append_nil] at b
  refine wpAny_call (make_map (f := f) I.kIn M.makes M.init (beq_iff_eq.mp M.fn) (codeAny_mono (F.run _ X.stack _ _ ⟨Value.ref (s.heap.objs.size + 1) :: us, []⟩ (Value.ref (s.heap.objs.size + 1) :: us) _ _ E (hr.make C us []) (I2.env0.make C us []) b r2 hq) fun r s' hq' => ?_))
  cases r with
  | error e => exact hx pins _ _ e s' I2 hq'
  | ok fl =>
    cases fl with
    | ret u =>
      obtain ⟨v, H', I3, rv, ev, q3⟩ := I2.after hq'
      subst ev
      exact ⟨rv, ⟨V.ref (s.heap.objs.size + 1), H', I3, rfl, q3⟩⟩
    | next => exact False.elim hq'
    | brk => exact False.elim hq'
    | cont => exact False.elim hq'
theorem pe_makeS {E : St → XK} (M : Mk X.K C f) (F : FnOk X.prog X.w X.K X.mg X.base CX k f fd ps sp) (hr : Room (k + 1) X.A) (hg : Gl X x) (hm : X.mg x = some (.ref C)) (hb : Binds X.K fd ps []) (hx : ∀ σ, PassesAt CX X σ (E σ))
    (ha : PA X (e :: es) t) (hdb : (x == ("__debug__" : Str)) = false := by decide) (he : starEach (e :: es) X.env = (false, eval e X.env) :: starEach es X.env := by rfl) (hpl : (backTo pos (starEach es X.env)).any (·.1) = false := by rfl) :
    PE X (.Call (.Name x p) (e :: es) [] pos) (tMakeS C sp E t) := by
  refine ⟨fun pins s σ H Q I h => ?_⟩
  refine wpAny_Call_Name_kw (ld_glob I hg hm ?_ hdb)
  refine PySem.W.callWith_K (h₀ := X.base) I.ok.mod.kin M.kp (thn (ha.run pos pins s σ H _ I h) fun us s1 ⟨vs, H1, I1, r, q⟩ => ⟨I1.kIn, ?_⟩) he hpl
  exact run_makeS M F hr hb (hx σ) I1 r q
/-- the class at C has this method -/
structure OwnM (K : PySem.W.Frag) (C f : Addr) (m : Str) : Prop where
  find : PySem.W.findIn K (.ref C) m = some (some (.ref f))
  fn : PySem.W.isFn K (.ref f) = true
/-- both are instances of C -/
def rIns2 (C : Addr) (sp : Sp) (E : XK) : R2 := fun x y H Q => ∃ a b dx dy fs gs, x = .ref a ∧ y = .ref b ∧ H a = some (.ins C dx fs) ∧ H b = some (.ins C dy gs) ∧ sp [x, y] H Q E
theorem op_binI {op : Operator} {E : XK} (first : PySem.W.selfFirst X.K C = true) (o : OwnM X.K C f (PySem.dunder op.info.2)) (F : FnOk X.prog X.w X.K X.mg X.base CX k f fd ps sp) (hr : Room k X.A) (hb : Binds X.K fd ps []) (hx : Passes CX X E) : OpR X (binaryOp op) (rIns2 C sp E) := by
  intro pins s σ H x y v u Q I rx ry h
  obtain ⟨a, b, dx, dy, fs, gs, rfl, rfl, ha, hb', q⟩ := h
  cases rx
  cases ry
  obtain ⟨mA, J, _⟩ := ins_get I.hok ha
  obtain ⟨mB, J', _⟩ := ins_get I.hok hb'
  obtain ⟨od, J, _⟩ := J.look
  obtain ⟨od', J', _⟩ := J'.look
  obtain ⟨m, hF⟩ := I.fr
  refine PySem.W.binop_K hF I.ok.mod.kin J J'.type first o.find o.fn ?_
  refine wpAny_mono (run_fn (us := [.ref a, .ref b]) (vs := [.ref a, .ref b]) (dvs := []) F hr hb .nil hx I (.cons rfl (.cons rfl .nil)) q) (fun w s' z => ?_) fun _ _ x => x
  obtain ⟨z', H', I', rz, qz⟩ := z
  exact SlX.cmpback rz ⟨z', H', I', rz, qz⟩
def rIns1 (C : Addr) (sp : Sp) (E : XK) : V → Hp → VK → Prop := fun x H Q => ∃ a dx fs, x = .ref a ∧ H a = some (.ins C dx fs) ∧ sp [x] H Q E
theorem un_negI {E : XK} (o : OwnM X.K C f "__neg__") (F : FnOk X.prog X.w X.K X.mg X.base CX k f fd ps sp) (hr : Room k X.A) (hb : Binds X.K fd ps []) (hx : Passes CX X E) : UnR X (unaryOp .USub) (rIns1 C sp E) := by
  intro pins s σ H x v Q I rx h
  obtain ⟨a, dx, fs, rfl, ha, q⟩ := h
  cases rx
  obtain ⟨mA, J, _⟩ := ins_get I.hok ha
  obtain ⟨od, J, _⟩ := J.look
  obtain ⟨m, hF⟩ := I.fr
  exact PySem.W.ksp_neg hF I.ok.mod.kin J o.find o.fn (run_fn (us := [.ref a]) (vs := [.ref a]) (dvs := []) F hr hb .nil hx I (.cons rfl .nil) q)
theorem op_eqI {E : XK} (first : PySem.W.notFirst X.K C (.ref C) = true) (o : OwnM X.K C f "__eq__") (F : FnOk X.prog X.w X.K X.mg X.base CX k f fd ps sp) (hr : Room k X.A) (hb : Binds X.K fd ps []) (hx : Passes CX X E) : OpR X (compareOp .Eq) (rIns2 C sp E) := by
  intro pins s σ H x y v u Q I rx ry h
  obtain ⟨a, b, dx, dy, fs, gs, rfl, rfl, ha, hb', q⟩ := h
  cases rx
  cases ry
  obtain ⟨mA, J, _⟩ := ins_get I.hok ha
  obtain ⟨mB, J', _⟩ := ins_get I.hok hb'
  obtain ⟨od, J, _⟩ := J.look
  obtain ⟨od', J', _⟩ := J'.look
  obtain ⟨m, hF⟩ := I.fr
  show wpAny _ _ (richCompare .Eq (.ref a) (.ref b)) _ _ _
  refine PySem.W.cmp_K (op := .Eq) (tb := .ref C) hr.units0 hF I.ok.mod.kin J J'.type first o.find o.fn ?_
  refine wpAny_mono (run_fn (us := [.ref a, .ref b]) (vs := [.ref a, .ref b]) (dvs := []) F hr hb .nil hx I (.cons rfl (.cons rfl .nil)) q) (fun w s' z => ?_) fun _ _ x => x
  obtain ⟨z', H', I', rz, qz⟩ := z
  exact SlX.cmpback rz ⟨z', H', I', rz, qz⟩
end
section
variable {prog : Program} {w : World} {A : Around} {E : Value → Shared → Prop} {s : Shared}
theorem bool_of {x : Value} {Q : Value → Shared → Prop} (h : wpAny (model prog w) A.in1.in1 (truthy x) (fun b s' => Q (.bool b) s') E s) : wpAny (model prog w) A (call (.type "bool") [x]) Q E s := by
  refine callType_codes (T := "bool") (Bi := Builtin.«object.__init__») (Q₁ := fun r s₁ => ∃ b, r = Value.bool b ∧ Q r s₁) PySem.F.called_bool (PySem.F.typeCall_bool_1 _) PySem.F.entry_object_init ?_ ?_
  · refine codeAny_of_tree ?_
    show wpAny _ A.in1.in1 (do checkBuiltinCall "bool.__new__" ⟨[.type "bool", x], []⟩; again (.builtin "bool.__new__" ⟨[.type "bool", x], []⟩)) _ _ s
    refine wpAny_bind (wpAny_of_eq (PySem.F.newCall_bool_1 _) (wpAny_pure ⟨plainId_quiet (by decide +kernel) _, codeAny_builtin PySem.F.entry_bool_new ?_⟩))
    rw [Around.under_plainId (by decide +kernel) _]
    unfold Builtin.«bool.__new__»
    refine wpAny_bind (wpAny_of_eq (a := true) rfl ?_)
    refine PySem.W.KFB.if_not rfl ?_
    refine wpAny_bind (wpAny_of_eq (a := true) PySem.F.conv_sub_bool ?_)
    refine PySem.W.KFB.if_not rfl ?_
    refine wpAny_bind (m := someArgs "bool" 0 1 _) (wpAny_pure ?_)
    refine wpAny_bind (wpAny_mono h (fun b s' hb => ?_) fun _ _ y => y)
    exact wpAny_pure ⟨b, rfl, hb⟩
  · rintro obj s₁ ⟨b, rfl, hq⟩
    exact ⟨PyProof.Rows.typeIs_bool _ _, PySem.F.args_object_init_2 _ _, object_init_meets PySem.F.called_bool.init.lookup PySem.F.called_bool.made (by decide) prog w A.in1 _ s₁ ⟨PyProof.Rows.typeIs_bool _ _, rfl, hq⟩⟩
end
section
variable {X : Cx} {CX : CXT} {k : Nat} {C f : Addr} {fd : FuncData} {ps : List Str} {sp : Sp}
/-- len(o), bool(o): the own method's answer -/
def rLenI (C : Addr) (sp : Sp) (E : XK) : List V → Hp → VK → Prop := fun xs H Q => ∃ a dx fs, xs = [.ref a] ∧ H a = some (.ins C dx fs) ∧ sp [.ref a] H (fun v H' => ∃ n : Nat, v = .int (n : Int) ∧ n < 1000000 ∧ Q (.int (n : Int)) H') E
theorem call_lenI {E : XK} (o : OwnM X.K C f "__len__") (F : FnOk X.prog X.w X.K X.mg X.base CX k f fd ps sp) (hr : Room (k + 1) X.A) (hb : Binds X.K fd ps []) (hx : Passes CX X E) : CallR X (.builtin "len") (rLenI C sp E) := by
  intro pins s σ H xs us Q I r h
  obtain ⟨a, dx, fs, rfl, ha, q⟩ := h
  obtain ⟨u, rfl, ru⟩ := r.one
  cases (show u = Value.ref a from ru)
  obtain ⟨mA, J, _⟩ := ins_get I.hok ha
  obtain ⟨od, J, _⟩ := J.look
  obtain ⟨m, hF⟩ := I.fr
  refine PySem.W.len_K hF I.ok.mod.kin J o.find o.fn ?_
  have R := F.raw hb (dvs := []) .nil
  refine wpAny_mono (wpAny_call (SlX.run_at (us := [.ref a]) (ws := [.ref a]) R hr.in1 I.env0.in1 hx I (.cons rfl .nil) q)) (fun w s' z => ?_) fun _ _ x => x
  obtain ⟨z', H', I', rz, n, ez, ln, qz⟩ := z
  subst ez
  obtain ⟨t, e⟩ := (show ∃ t, w = Value.int (n : Int) t from rz)
  cases e
  exact ⟨⟨by omega, by omega⟩, .int (n : Int), H', I'.tok _, ⟨_, rfl⟩, qz⟩
def rBoolI (C : Addr) (sp : Sp) (E : XK) : List V → Hp → VK → Prop := fun xs H Q => ∃ a dx fs, xs = [.ref a] ∧ H a = some (.ins C dx fs) ∧ sp [.ref a] H (fun v H' => ∃ b : Bool, v = .bl b ∧ Q (.bl b) H') E
theorem call_boolI {E : XK} (o : OwnM X.K C f "__bool__") (F : FnOk X.prog X.w X.K X.mg X.base CX k f fd ps sp) (hr : Room (k + 2) X.A) (hb : Binds X.K fd ps []) (hx : Passes CX X E) : CallR X (.type "bool") (rBoolI C sp E) := by
  intro pins s σ H xs us Q I r h
  obtain ⟨a, dx, fs, rfl, ha, q⟩ := h
  obtain ⟨u, rfl, ru⟩ := r.one
  cases (show u = Value.ref a from ru)
  obtain ⟨mA, J, _⟩ := ins_get I.hok ha
  obtain ⟨od, J, _⟩ := J.look
  obtain ⟨m, hF⟩ := I.fr
  have R := F.raw hb (dvs := []) .nil
  refine bool_of (PySem.W.truthy_K hF I.ok.mod.kin J o.find o.fn ?_)
  have hr2 : Room k X.A.in1.in1 := (show Room (k + 1) X.A.in1 from Room.in1 hr).in1
  refine wpAny_mono (wpAny_call (SlX.run_at (us := [.ref a]) (ws := [.ref a]) R hr2 I.env0.in1.in1 hx I (.cons rfl .nil) q)) (fun w s' z => ?_) fun _ _ x => x
  obtain ⟨z', H', I', rz, b, ez, qz⟩ := z
  subst ez
  cases (show w = Value.bool b from rz)
  exact ⟨.bl b, H', I', rfl, qz⟩
end
end L2

/-! ### bool(d), the keys diagrams -/
namespace L2
namespace KD
open PySem PySem.Spec PyProof.Rows
theorem dict_noBool : typeLookup (.type "dict") "__bool__" = pure none := by rw [typeLookup_type, builtinLookup_eq_fast]; kernel_rfl
section
variable {prog : Program} {w : World} {A : Around} {E : Value → Shared → Prop} {s : Shared}
theorem truthy_nd {d : Addr} {xs : List (NestedKey × Addr × Value)} {Q : Bool → Shared → Prop} (hd : (d == sysModules) = false) (hm : s.heap.DictOfH (nestedKind prog w) d xs) (hfit : (xs.length : Int) < 2 ^ 63)
    (h : Q ((xs.length : Int) != 0) { s with toks := s.toks + 1 + 1 }) : wpAny (model prog w) A (truthy (.ref d)) Q E s := by
  have key : wpAny (model prog w) A (runValue (.builtin "len" ⟨[.ref d], []⟩)) (fun r s' => r = .int xs.length (s.toks + 1) ∧ Q ((xs.length : Int) != 0) s') E s := by
    refine wpAny_runValue (codeAny_builtin entry_len ?_)
    rw [Around.under_plainId plain_len _]
    exact wpAny_mono (wpAny_len_body_dictH (Q := fun r s' => r = .int xs.length (s.toks + 1) ∧ Q ((xs.length : Int) != 0) s') hd hm hfit ⟨rfl, h⟩) (fun fin s' h' => by obtain ⟨r, rfl, hq⟩ := h'; exact hq) fun _ _ e => e
  unfold truthy
  first
    | refine wpAny_bind (wpAny_callSpecial?_none (name := Str.ofString "__bool__") hm.typeIs dict_noBool ?_)
    | refine wpAny_bind (wpAny_pure (wpAny_bind (wpAny_callSpecial?_none (name := Str.ofString "__bool__") hm.typeIs dict_noBool ?_)))
  first
    | refine wpAny_bind (wpAny_specialOf (name := Str.ofString "__len__") hm.typeIs PySem.F.slot_dict_len.lookup ?_)
    | refine wpAny_bind (wpAny_pure (wpAny_bind (wpAny_specialOf (name := Str.ofString "__len__") hm.typeIs PySem.F.slot_dict_len.lookup ?_)))
  first
    | exact wpAny_bind (wpAny_mono key (fun r s' h' => by obtain ⟨rfl, hq⟩ := h'; exact wpAny_pure hq) fun _ _ e => e)
    | exact wpAny_bind (wpAny_pure (wpAny_bind (wpAny_mono key (fun r s' h' => by obtain ⟨rfl, hq⟩ := h'; exact wpAny_pure hq) fun _ _ e => e)))
end
def rZBool (P : Program) (w : World) : List V → Hp → VK → Prop := fun xs H Q => ∃ (p : Addr) (kvs : Ents), xs = [.ref p] ∧ Rd H p (NDict P w p kvs) ∧ KeysOk H kvs ∧ Q (.bl (decide (kvs.length ≠ 0))) H
theorem call_zbool {X : Cx} : CallR X (.type "bool") (rZBool X.prog X.w) := by
  intro pins s σ H xs us Q I r h
  obtain ⟨p, kvs, rfl, hp, K, q⟩ := h
  obtain ⟨u, rfl, rx⟩ := vals1 r
  obtain rfl : u = .ref p := rx
  obtain ⟨z, hd, ys, rel, dd⟩ := nd_rd I.hok hp K
  have hl : kvs.length = ys.length := Paired.length rel
  refine bool_of (truthy_nd hd dd (by rw [← hl]; rw [sizeLine_eq] at z; omega) ?_)
  refine ⟨.bl (decide (kvs.length ≠ 0)), H, I.tok _, ?_, q⟩
  show Value.bool _ = Value.bool _
  congr 1
  rw [hl]
  by_cases c : ys.length = 0
  · rw [c]; rfl
  · rw [decide_eq_true c]
    exact bne_iff_ne.mpr (by omega)
end KD
end L2

namespace T
open PySem PySem.Spec PyProof.Rows L2
def SameBut (a : Addr) (H H' : Hp) : Prop := ∀ b o, b ≠ a → H b = some o → H' b = some o
theorem SameBut.refl (a : Addr) (H : Hp) : SameBut a H H := fun _ _ _ h => h
theorem SameBut.trans {a : Addr} {H H1 H2 : Hp} (x : SameBut a H H1) (y : SameBut a H1 H2) : SameBut a H H2 := fun b o n h => y b o n (x b o n h)
theorem SameBut.upd {a : Addr} {H : Hp} {o : HO} : SameBut a H (upd H a o) := fun b u n h => by rw [upd_ne n]; exact h
theorem SameBut.new {a p : Addr} {H : Hp} {o : HO} (h : H p = none) : SameBut a H (L2.upd H p o) := fun b u n e => by rw [upd_ne (ne_of_none e h)]; exact e
theorem Same.but {a : Addr} {H H' : Hp} (h : Same H H') : SameBut a H H' := fun b o _ e => h b o e
theorem same_upd {H : Hp} {p : Addr} {o : HO} (h : H p = none) : Same H (upd H p o) := fun b x e => by
  rw [upd_ne (ne_of_none e h)]
  exact e
theorem upd_self {H : Hp} {a : Addr} {o : HO} (h : H a = some o) : upd H a o = H := by
  funext b
  unfold upd
  by_cases e : b = a
  · rw [if_pos e, e, h]
  · rw [if_neg e]
theorem Same.mut {H H' : Hp} {p : Addr} {o : HO} (e : Same H H') (h : H p = none) : Same H (upd H' p o) := fun a u ha => by
  rw [upd_ne (ne_of_none ha h)]
  exact e a u ha
theorem map_int_get {ns : List Int} {i : Nat} {y : V} (hi : (ns.map V.int)[i]? = some y) : ∃ z, ns[i]? = some z ∧ y = V.int z := by
  rw [List.getElem?_map] at hi
  cases e : ns[i]? with
  | none =>
    rw [e] at hi
    cases hi
  | some z =>
    rw [e] at hi
    exact ⟨z, rfl, (Option.some.inj hi).symm⟩
theorem small_of {n : Nat} (h : n ≤ 100000) : n < sizeLine := Nat.lt_of_le_of_lt h (by decide)
structure ErrC (K : PySem.W.Frag) (mg : Str → Option Value) (x : Str) (C : Addr) : Prop where
  gc : mg x = some (.ref C)
  xC : PySem.W.excIn K C [.type "ValueError", .type "Exception", .type "BaseException", .type "object"] "ValueError.__new__" = true
  kc : PySem.W.keepIn K (.ref C) = true
  bc : PySem.W.subIn K (.ref C) (.type "BaseException") = some true
  tc : PySem.W.typeIn K (.ref C) = some (.type "type")
/-- a def whose defaults stand somewhere (called with all its arguments) -/
structure FunA (K : PySem.W.Frag) (x qual : Str) (st : Stmt) (f : Addr) (fd : FuncData) : Prop where
  ex : ∃ (oc : Value) (od : Option Addr) (dV kV doc pm : Value) (an : Option Addr) (cdv ct : Value) (osl : Array (Option Value)),
    fd = PySem.W.fnOf x qual (defArgs st) (defBody st) (defScope st) dV kV doc pm an cdv ct ∧ K.lookup f = some ⟨oc, od, .func fd, osl⟩ ∧ PySem.W.codeIn K cdv qual = true
  kp : PySem.W.keepIn K (.ref f) = true
section
variable {P : Program} {w : World} {K : PySem.W.Frag} {mg : Str → Option Value} {base : Heap}
theorem FunA.okX {x qual : Str} {st : Stmt} {f : Addr} {fd : FuncData} {N ps : List Str} {k : Nat} {sp : Sp} (F : FunA K x qual st f fd) (S : FnScope N ps (defScope st)) (len : ∀ vs H Q E, sp vs H Q E → vs.length = ps.length)
    (hbody : ∀ (cdv : Value) (A : Around) (outer : List Env) (s : Shared) (H : Hp) (vs : List V) (Q : VK) (E : XK), Room k (A.deeper (envOfC qual (defScope st) s.heap.objs.size f cdv)) → sp vs H Q E →
      ∃ t, PSs (cxOf (L2.CX P w) P w K mg base N qual (defScope st) f cdv A outer s H E) (defBody st) t ∧ t { nx := fun _ H' => Q .non H', rt := Q } (start N vs) H) : FnOk P w K mg base (L2.CX P w) (k + 1) f fd ps sp := by
  obtain ⟨oc, od, dV, kV, doc, pm, an, cdv, ct, osl, rfl, lk, hcd⟩ := F.ex
  exact fn_of lk hcd S len fun A outer s H vs Q E hr hsp => hbody cdv A outer s H vs Q E hr hsp
end
theorem if_pos_of {b : Bool} {A B : Prop} (h : b = true) (x : A) : if b = true then A else B := by
  rw [if_pos h]
  exact x
theorem if_neg_of {b : Bool} {A B : Prop} (h : ¬ b = true) (x : B) : if b = true then A else B := by
  rw [if_neg h]
  exact x
theorem sqT_same {K : PySem.W.Frag} {H H' : Hp} {a : Addr} {xs : List V} (e : Same H H') (h : SqT K H a xs) : SqT K H' a xs := by
  rcases h with (h | ⟨o, h⟩) | h
  · exact .inl (.inl (e _ _ h))
  · exact .inl (.inr ⟨o, e _ _ h⟩)
  · exact .inr h
section
variable {P : Program} {w : World} {K : PySem.W.Frag} {mg : Str → Option Value} {base : Heap}
theorem room64 {k : Nat} {A : Around} (hr : Room k A) : A.units + 64 < cLine := by have := hr.un; omega
theorem room65 {k : Nat} {A : Around} (hr : Room k A) : A.units + 65 < cLine := by have := hr.un; omega
theorem inV_primes {p : Int} : inV (.int p) [.int 2, .int 3, .int 5, .int 7, .int 11, .int 13, .int 17, .int 19, .int 23, .int 29, .int 31] = inV (.int p) (primes.map V.int) := rfl
end
theorem sqT_but {K : PySem.W.Frag} {H H' : Hp} {r a : Addr} {xs : List V} (e : SameBut r H H') (n : a ≠ r) (h : SqT K H a xs) : SqT K H' a xs := by
  rcases h with (h | ⟨o, h⟩) | h
  · exact .inl (.inl (e _ _ n h))
  · exact .inl (.inr ⟨o, e _ _ n h⟩)
  · exact .inr h
theorem at_tab {xs : List Int} {i : Int} (h0 : 0 ≤ i) (h1 : i < xs.length) : atI (xs.map V.int) i = some (.int (xs.getD i.toNat 0)) := by
  obtain ⟨n, rfl⟩ := Int.eq_ofNat_of_zero_le h0
  have hn : n < xs.length := by omega
  refine atI_nat ?_
  rw [List.getElem?_map, List.getElem?_eq_getElem hn, List.getD_eq_getElem?_getD, show ((n : Nat) : Int).toNat = n from rfl, List.getElem?_eq_getElem hn]
  rfl
theorem mod_lt8 (n : Int) {m : Int} (h : 0 < m) : 0 ≤ n % m ∧ n % m < m := ⟨Int.emod_nonneg _ (by omega), Int.emod_lt_of_pos _ h⟩
def wtab : List Int := [0, 0, 0, 2, 3, 5, 7, 31]
theorem wtab_in : ∀ k : Nat, k < 8 → wtab.getD k 0 = 0 ∨ (wtab.getD k 0 ≠ 0 ∧ inV (.int (wtab.getD k 0)) (primes.map V.int) = true ∧ 2 ≤ wtab.getD k 0) := by decide
/-! ### isinstance of the error that an except suite holds -/
def rIsE' (K : PySem.W.Frag) (cls : Value) (d : Option Addr) (a : Addr) : List V → Hp → VK → Prop := fun xs H Q => ∃ D : Addr, cls = .ref D ∧ d = none ∧ ExcC K D ∧ rIsE K D a xs H Q
theorem call_isE' {X : Cx} {a : Addr} {oe : Obj} {pn : List (Addr × Obj)} {cls : Value} {d : Option Addr} (hz : Zc cls d oe) (hf : ∃ vs, oe.data = .fields vs) : CallR (X.suite a ((a, oe) :: pn)) (.builtin "isinstance") (rIsE' X.K cls d a) := by
  intro pins s σ H xs us Q I r h
  obtain ⟨D, rfl, rfl, C, h⟩ := h
  exact call_isE C hz hf pins s σ H xs us Q I r h
theorem pe_indexK {X : Cx} {K : PySem.W.Frag} {o e : Expr} {to : TE} {t : TA} {apos cpos : Pos} (hK : X.K = K) (ho : PE X o to) (ha : PA X [e] t)
    (hb : attributeBase o "index" X.env (eval o X.env) = eval o X.env := by rfl)
    (hf : ((backTo cpos (starEach [e] X.env)).all (fun x => !x.1) && (backToKw cpos (keywordEach [] X.env)).all (fun x => x.1.isSome) && decide ([e].length + ([] : List Keyword).length + (if ([] : List Keyword).isEmpty then 0 else 1) < 30)) = true := by rfl)
    (hl : (apos.endLine == cpos.line) = true := by rfl) (hs : starEach [e] X.env = (false, eval e X.env) :: starEach [] X.env := by rfl) (hp : (backTo cpos (starEach [] X.env)).any (·.1) = false := by rfl) :
    PE X (.Call (.Attribute o "index" apos) [e] [] cpos) (tBM K "list" (rIndex K) to t) := by
  subst hK
  exact pe_bm PySem.F.plainAttrs_list PySem.F.slot_list_index PySem.F.type_list_index mt_index ho ha hb hf hl hs hp
/-! ### values without depth -/
inductive Val1 (H : Hp) : V → PyData → Prop
  | non : Val1 H .non .none
  | bl (b : Bool) : Val1 H (.bl b) (.bool b)
  | str (x : Str) : Val1 H (.str x) (.str x)
  | pair {t : Addr} {u v : Int} : H t = some (.tup [.int u, .int v]) → Val1 H (.ref t) (.tuple [.int u, .int v])
theorem Val1.dp {K : PySem.W.Frag} {H : Hp} {x : V} {d : PyData} (h : Val1 H x d) : Dp K H x d := by
  cases h with
  | non => exact .non
  | bl b => exact .bl b
  | str x => exact .str x
  | pair h => exact .tup (.inl (.inl h)) (.cons (.int _) (.cons (.int _) .nil))
theorem Val1.but {H H' : Hp} {D : Addr} {ys : List V} {x : V} {d : PyData} (s : SameBut D H H') (hD : H D = some (.lst ys)) (h : Val1 H x d) : Val1 H' x d := by
  cases h with
  | non => exact .non
  | bl b => exact .bl b
  | str x => exact .str x
  | pair h => exact .pair (s _ _ (ne_of h hD (fun z => nomatch z)) h)
theorem Val1.same {H H' : Hp} {x : V} {d : PyData} (s : Same H H') (h : Val1 H x d) : Val1 H' x d := by
  cases h with
  | non => exact .non
  | bl b => exact .bl b
  | str x => exact .str x
  | pair h => exact .pair (s _ _ h)
theorem vals1_dp {K : PySem.W.Frag} {H : Hp} : ∀ {xs : List V} {ds : List PyData}, Paired (Val1 H) xs ds → DpAll K H xs ds
  | _, _, .nil => .nil
  | _, _, .cons a b => .cons a.dp (vals1_dp b)
theorem paired_snoc {α β : Type} {F : α → β → Prop} {a : α} {b : β} (h : F a b) : ∀ {l : List α} {m : List β}, Paired F l m → Paired F (l ++ [a]) (m ++ [b])
  | _, _, .nil => .cons h .nil
  | _, _, .cons x y => .cons x (paired_snoc h y)

/-- a def of a class, by its place -/
def inClsN (i : Nat) : Stmt → Stmt
  | .ClassDef _ _ _ body _ _ _ _ _ _ _ => body.getD i (.Pass ⟨0, 0, 0, 0⟩)
  | s => s
/-- the first def of a class -/
def inCls : Stmt → Stmt
  | .ClassDef _ _ _ body _ _ _ _ _ _ _ => body.getD 0 (.Pass ⟨0, 0, 0, 0⟩)
  | s => s
theorem pt_truthK {X : Cx} {K : PySem.W.Frag} {a : Expr} {ta : TE} (hK : X.K = K) (ha : PE X a ta) (he : ∀ whole, isTrue a X.env whole = (do let v ← whole; standAt a.pos; holding [v] (truthy v))) :
    PT X a (fun σ H Q => ta σ H fun x H' => ∃ k, TruV K x H' k ∧ Q k H') := by
  subst hK
  exact pt_truth ha he
theorem op_in_seqK {X : Cx} {K : PySem.W.Frag} (hK : X.K = K) : OpR X (compareOp .In) (rIn K false) := by
  subst hK
  exact op_in_seq
theorem op_notIn_seqK {X : Cx} {K : PySem.W.Frag} (hK : X.K = K) : OpR X (compareOp .NotIn) (rIn K true) := by
  subst hK
  exact op_notIn_seq
theorem pi_listK {X : Cx} {K : PySem.W.Frag} {tg e : Expr} {te : TE} (hK : X.K = K) (he : PE X e te) : PI X tg e (iList K te) := by
  subst hK
  exact pi_list he

def topS (i : Nat) : Stmt := PySem.Challenge.pw_threadworth_k32_sums_and_their_terms.main.body.getD i (.Pass ⟨0, 0, 0, 0⟩)
abbrev s_wall_ : Stmt := topS 1
theorem sc_wall_ : FnScope ["k"] ["k"] (defScope s_wall_) := ⟨rfl, rfl, rfl, by decide +kernel, rfl, by decide +kernel, by decide +kernel⟩
abbrev s_is_size_ : Stmt := topS 13
theorem sc_is_size_ : FnScope ["n", "m"] ["n", "m"] (defScope s_is_size_) := ⟨rfl, rfl, rfl, by decide +kernel, rfl, by decide +kernel, by decide +kernel⟩
abbrev s_check_size_ : Stmt := topS 14
theorem sc_check_size_ : FnScope ["n", "m"] ["n", "m"] (defScope s_check_size_) := ⟨rfl, rfl, rfl, by decide +kernel, rfl, by decide +kernel, by decide +kernel⟩
abbrev s_is_diagram : Stmt := topS 15
theorem sc_is_diagram : FnScope ["diagram", "n", "m", "blocks", "points", "firsts", "block", "point"] ["diagram"] (defScope s_is_diagram) := ⟨rfl, rfl, rfl, by decide +kernel, rfl, by decide +kernel, by decide +kernel⟩
abbrev s_check_diagram : Stmt := topS 16
theorem sc_check_diagram : FnScope ["diagram"] ["diagram"] (defScope s_check_diagram) := ⟨rfl, rfl, rfl, by decide +kernel, rfl, by decide +kernel, by decide +kernel⟩
abbrev s_labels : Stmt := topS 17
theorem sc_labels : FnScope ["diagram", "n", "m", "blocks", "marks", "k", "block", "point", "_"] ["diagram"] (defScope s_labels) := ⟨rfl, rfl, rfl, by decide +kernel, rfl, by decide +kernel, by decide +kernel⟩
abbrev s_from_labels : Stmt := topS 18
theorem sc_from_labels : FnScope ["n", "m", "marks", "blocks", "point", "mark"] ["n", "m", "marks"] (defScope s_from_labels) := ⟨rfl, rfl, rfl, by decide +kernel, rfl, by decide +kernel, by decide +kernel⟩
abbrev s_is_world : Stmt := topS 24
theorem sc_is_world : FnScope ["world", "p", "d"] ["world"] (defScope s_is_world) := ⟨rfl, rfl, rfl, by decide +kernel, rfl, by decide +kernel, by decide +kernel⟩
abbrev s_check_world : Stmt := topS 25
theorem sc_check_world : FnScope ["world"] ["world"] (defScope s_check_world) := ⟨rfl, rfl, rfl, by decide +kernel, rfl, by decide +kernel, by decide +kernel⟩
abbrev s_is_number : Stmt := topS 26
theorem sc_is_number : FnScope ["world", "x", "p", "_", "a", "b"] ["world", "x"] (defScope s_is_number) := ⟨rfl, rfl, rfl, by decide +kernel, rfl, by decide +kernel, by decide +kernel⟩
abbrev s_check_number : Stmt := topS 27
theorem sc_check_number : FnScope ["world", "x"] ["world", "x"] (defScope s_check_number) := ⟨rfl, rfl, rfl, by decide +kernel, rfl, by decide +kernel, by decide +kernel⟩
abbrev s_number : Stmt := topS 28
theorem sc_number : FnScope ["world", "a", "b", "p", "_"] ["world", "a", "b"] (defScope s_number) := ⟨rfl, rfl, rfl, by decide +kernel, rfl, by decide +kernel, by decide +kernel⟩
abbrev s_lowest_ : Stmt := topS 29
theorem sc_lowest_ : FnScope ["a", "b", "shared"] ["a", "b"] (defScope s_lowest_) := ⟨rfl, rfl, rfl, by decide +kernel, rfl, by decide +kernel, by decide +kernel⟩
abbrev s_inverse_ : Stmt := topS 30
theorem sc_inverse_ : FnScope ["p", "b", "rest", "found"] ["p", "b"] (defScope s_inverse_) := ⟨rfl, rfl, rfl, by decide +kernel, rfl, by decide +kernel, by decide +kernel⟩
abbrev s_check_two_ : Stmt := topS 31
theorem sc_check_two_ : FnScope ["world", "x", "y"] ["world", "x", "y"] (defScope s_check_two_) := ⟨rfl, rfl, rfl, by decide +kernel, rfl, by decide +kernel, by decide +kernel⟩
abbrev s_plus : Stmt := topS 32
theorem sc_plus : FnScope ["world", "x", "y"] ["world", "x", "y"] (defScope s_plus) := ⟨rfl, rfl, rfl, by decide +kernel, rfl, by decide +kernel, by decide +kernel⟩
abbrev s_minus : Stmt := topS 33
theorem sc_minus : FnScope ["world", "x", "y"] ["world", "x", "y"] (defScope s_minus) := ⟨rfl, rfl, rfl, by decide +kernel, rfl, by decide +kernel, by decide +kernel⟩
abbrev s_times : Stmt := topS 34
theorem sc_times : FnScope ["world", "x", "y"] ["world", "x", "y"] (defScope s_times) := ⟨rfl, rfl, rfl, by decide +kernel, rfl, by decide +kernel, by decide +kernel⟩
abbrev s_power : Stmt := topS 35
theorem sc_power : FnScope ["world", "x", "count", "found", "_"] ["world", "x", "count"] (defScope s_power) := ⟨rfl, rfl, rfl, by decide +kernel, rfl, by decide +kernel, by decide +kernel⟩
abbrev s_loop_worth : Stmt := topS 36
theorem sc_loop_worth : FnScope ["world"] ["world"] (defScope s_loop_worth) := ⟨rfl, rfl, rfl, by decide +kernel, rfl, by decide +kernel, by decide +kernel⟩
abbrev s_loop_powers : Stmt := topS 37
theorem sc_loop_powers : FnScope ["world", "most", "count"] ["world", "most"] (defScope s_loop_powers) := ⟨rfl, rfl, rfl, by decide +kernel, rfl, by decide +kernel, by decide +kernel⟩
abbrev s_piece_marks : Stmt := topS 39
theorem sc_piece_marks : FnScope ["size", "groups", "parents", "group", "point", "low"] ["size", "groups"] (defScope s_piece_marks) := ⟨rfl, rfl, rfl, by decide +kernel, rfl, by decide +kernel, by decide +kernel⟩
abbrev s_root_ : Stmt := topS 40
theorem sc_root_ : FnScope ["parents", "point", "found"] ["parents", "point"] (defScope s_root_) := ⟨rfl, rfl, rfl, by decide +kernel, rfl, by decide +kernel, by decide +kernel⟩
abbrev s_hidden_count : Stmt := topS 41
theorem sc_hidden_count : FnScope ["marks", "shown"] ["marks", "shown"] (defScope s_hidden_count) := ⟨rfl, rfl, rfl, by decide +kernel, rfl, by decide +kernel, by decide +kernel⟩
abbrev s_put : Stmt := topS 43
theorem sc_put : FnScope ["one", "other", "n", "m", "upper", "k", "q", "lower", "groups", "marks", "shown", "block", "point"] ["one", "other"] (defScope s_put) := ⟨rfl, rfl, rfl, by decide +kernel, rfl, by decide +kernel, by decide +kernel⟩
abbrev s_closing : Stmt := topS 44
theorem sc_closing : FnScope ["diagram", "loops", "_"] ["diagram"] (defScope s_closing) := ⟨rfl, rfl, rfl, by decide +kernel, rfl, by decide +kernel, by decide +kernel⟩
abbrev s_closed_end : Stmt := topS 45
theorem sc_closed_end : FnScope ["diagram", "count", "n", "m", "blocks", "above", "below", "groups", "marks", "shown", "k"] ["diagram", "count"] (defScope s_closed_end) := ⟨rfl, rfl, rfl, by decide +kernel, rfl, by decide +kernel, by decide +kernel⟩
abbrev s_check_sum_size : Stmt := topS 49
theorem sc_check_sum_size : FnScope ["n", "m"] ["n", "m"] (defScope s_check_sum_size) := ⟨rfl, rfl, rfl, by decide +kernel, rfl, by decide +kernel, by decide +kernel⟩
abbrev s_check_points_ : Stmt := topS 50
theorem sc_check_points_ : FnScope ["n", "m", "diagram"] ["n", "m", "diagram"] (defScope s_check_points_) := ⟨rfl, rfl, rfl, by decide +kernel, rfl, by decide +kernel, by decide +kernel⟩
abbrev s_check_same_world_ : Stmt := topS 51
theorem sc_check_same_world_ : FnScope ["one", "other"] ["one", "other"] (defScope s_check_same_world_) := ⟨rfl, rfl, rfl, by decide +kernel, rfl, by decide +kernel, by decide +kernel⟩
abbrev s_check_same_points_ : Stmt := topS 52
theorem sc_check_same_points_ : FnScope ["one", "other"] ["one", "other"] (defScope s_check_same_points_) := ⟨rfl, rfl, rfl, by decide +kernel, rfl, by decide +kernel, by decide +kernel⟩
abbrev s_put_terms_ : Stmt := topS 53
theorem sc_put_terms_ : FnScope ["one", "other", "world", "powers", "found", "upper", "x", "lower", "y", "loops", "made"] ["one", "other"] (defScope s_put_terms_) := ⟨rfl, rfl, rfl, by decide +kernel, rfl, by decide +kernel, by decide +kernel⟩
abbrev s_zero_sum : Stmt := topS 54
theorem sc_zero_sum : FnScope ["world", "n", "m"] ["world", "n", "m"] (defScope s_zero_sum) := ⟨rfl, rfl, rfl, by decide +kernel, rfl, by decide +kernel, by decide +kernel⟩
abbrev s_law_number : Stmt := topS 56
theorem sc_law_number : FnScope ["cell"] ["cell"] (defScope s_law_number) := ⟨rfl, rfl, rfl, by decide +kernel, rfl, by decide +kernel, by decide +kernel⟩
abbrev s_law_draws : Stmt := topS 57
theorem sc_law_draws : FnScope ["script", "draws", "cell", "rest", "k", "once", "twice"] ["script"] (defScope s_law_draws) := ⟨rfl, rfl, rfl, by decide +kernel, rfl, by decide +kernel, by decide +kernel⟩
abbrev s_law_next : Stmt := topS 58
theorem sc_law_next : FnScope ["draws"] ["draws"] (defScope s_law_next) := ⟨rfl, rfl, rfl, by decide +kernel, rfl, by decide +kernel, by decide +kernel⟩
abbrev s_law_world : Stmt := topS 59
theorem sc_law_world : FnScope ["draws", "p"] ["draws"] (defScope s_law_world) := ⟨rfl, rfl, rfl, by decide +kernel, rfl, by decide +kernel, by decide +kernel⟩
abbrev s_law_lowest : Stmt := topS 60
theorem sc_law_lowest : FnScope ["a", "b", "one", "other", "j"] ["a", "b"] (defScope s_law_lowest) := ⟨rfl, rfl, rfl, by decide +kernel, rfl, by decide +kernel, by decide +kernel⟩
abbrev s_law_value : Stmt := topS 61
theorem sc_law_value : FnScope ["draws", "world"] ["draws", "world"] (defScope s_law_value) := ⟨rfl, rfl, rfl, by decide +kernel, rfl, by decide +kernel, by decide +kernel⟩
abbrev s_law_plus : Stmt := topS 62
theorem sc_law_plus : FnScope ["world", "x", "y"] ["world", "x", "y"] (defScope s_law_plus) := ⟨rfl, rfl, rfl, by decide +kernel, rfl, by decide +kernel, by decide +kernel⟩
abbrev s_law_times : Stmt := topS 63
theorem sc_law_times : FnScope ["world", "x", "y"] ["world", "x", "y"] (defScope s_law_times) := ⟨rfl, rfl, rfl, by decide +kernel, rfl, by decide +kernel, by decide +kernel⟩
abbrev s_law_power : Stmt := topS 64
theorem sc_law_power : FnScope ["world", "count", "result", "j"] ["world", "count"] (defScope s_law_power) := ⟨rfl, rfl, rfl, by decide +kernel, rfl, by decide +kernel, by decide +kernel⟩
abbrev s_law_marked : Stmt := topS 65
theorem sc_law_marked : FnScope ["n", "m", "marks", "known", "blocks", "at", "block"] ["n", "m", "marks"] (defScope s_law_marked) := ⟨rfl, rfl, rfl, by decide +kernel, rfl, by decide +kernel, by decide +kernel⟩
abbrev s_law_marks : Stmt := topS 66
theorem sc_law_marks : FnScope ["diagram", "marks", "number_v", "point"] ["diagram"] (defScope s_law_marks) := ⟨rfl, rfl, rfl, by decide +kernel, rfl, by decide +kernel, by decide +kernel⟩
abbrev s_law_belongs : Stmt := topS 67
theorem sc_law_belongs : FnScope ["family", "diagram", "n", "m", "blocks", "block", "crossing"] ["family", "diagram"] (defScope s_law_belongs) := ⟨rfl, rfl, rfl, by decide +kernel, rfl, by decide +kernel, by decide +kernel⟩
abbrev s_law_all : Stmt := topS 68
theorem sc_law_all : FnScope ["family", "n", "m", "rows", "j", "longer", "row", "found", "diagram", "label"] ["family", "n", "m"] (defScope s_law_all) := ⟨rfl, rfl, rfl, by decide +kernel, rfl, by decide +kernel, by decide +kernel⟩
abbrev s_law_glued : Stmt := topS 69
theorem sc_law_glued : FnScope ["marks", "pairs", "one", "other", "old", "mark"] ["marks", "pairs"] (defScope s_law_glued) := ⟨rfl, rfl, rfl, by decide +kernel, rfl, by decide +kernel, by decide +kernel⟩
abbrev s_law_kinds : Stmt := topS 70
theorem sc_law_kinds : FnScope ["marks", "kinds", "mark"] ["marks"] (defScope s_law_kinds) := ⟨rfl, rfl, rfl, by decide +kernel, rfl, by decide +kernel, by decide +kernel⟩
abbrev s_law_put : Stmt := topS 71
theorem sc_law_put : FnScope ["one", "other", "n", "m", "marks", "outer", "mark", "at"] ["one", "other"] (defScope s_law_put) := ⟨rfl, rfl, rfl, by decide +kernel, rfl, by decide +kernel, by decide +kernel⟩
abbrev s_law_closing : Stmt := topS 72
theorem sc_law_closing : FnScope ["diagram", "n", "at"] ["diagram"] (defScope s_law_closing) := ⟨rfl, rfl, rfl, by decide +kernel, rfl, by decide +kernel, by decide +kernel⟩
abbrev s_law_added : Stmt := topS 73
theorem sc_law_added : FnScope ["world", "terms", "diagram", "x", "found"] ["world", "terms", "diagram", "x"] (defScope s_law_added) := ⟨rfl, rfl, rfl, by decide +kernel, rfl, by decide +kernel, by decide +kernel⟩
abbrev s_law_terms : Stmt := topS 74
theorem sc_law_terms : FnScope ["draws", "world", "some", "most", "terms", "j", "diagram"] ["draws", "world", "some", "most"] (defScope s_law_terms) := ⟨rfl, rfl, rfl, by decide +kernel, rfl, by decide +kernel, by decide +kernel⟩
abbrev s_law_listed : Stmt := topS 75
theorem sc_law_listed : FnScope ["terms", "keys", "rows", "n", "m", "marks", "diagram"] ["terms"] (defScope s_law_listed) := ⟨rfl, rfl, rfl, by decide +kernel, rfl, by decide +kernel, by decide +kernel⟩
abbrev s_law_product : Stmt := topS 76
theorem sc_law_product : FnScope ["world", "one", "other", "terms", "upper", "lower", "loops", "diagram", "x"] ["world", "one", "other"] (defScope s_law_product) := ⟨rfl, rfl, rfl, by decide +kernel, rfl, by decide +kernel, by decide +kernel⟩
abbrev s_law_worth : Stmt := topS 77
theorem sc_law_worth : FnScope ["world", "terms", "total", "diagram"] ["world", "terms"] (defScope s_law_worth) := ⟨rfl, rfl, rfl, by decide +kernel, rfl, by decide +kernel, by decide +kernel⟩
abbrev s_law_kind : Stmt := topS 78
theorem sc_law_kind : FnScope ["error", "kinds"] ["error"] (defScope s_law_kind) := ⟨rfl, rfl, rfl, by decide +kernel, rfl, by decide +kernel, by decide +kernel⟩
abbrev s_law_told : Stmt := topS 79
theorem sc_law_told : FnScope ["world", "n", "m", "pairs", "error"] ["world", "n", "m", "pairs"] (defScope s_law_told) := ⟨rfl, rfl, rfl, by decide +kernel, rfl, by decide +kernel, by decide +kernel⟩
abbrev s_law_refuses : Stmt := topS 80
theorem sc_law_refuses : FnScope ["world", "n", "m", "pairs", "bad", "other", "calm", "wrong", "shape", "at"] ["world", "n", "m", "pairs"] (defScope s_law_refuses) := ⟨rfl, rfl, rfl, by decide +kernel, rfl, by decide +kernel, by decide +kernel⟩
abbrev s_law : Stmt := topS 81
theorem sc_law : FnScope ["script", "draws", "world", "n", "m", "some", "pairs", "terms", "j", "diagram", "x", "passed", "one", "due", "told", "again", "more"] ["script"] (defScope s_law) := ⟨rfl, rfl, rfl, by decide +kernel, rfl, by decide +kernel, by decide +kernel⟩
abbrev s_Sum_init : Stmt := inClsN 0 (topS 48)
theorem sc_Sum_init : FnScope ["self", "world", "n", "m", "terms", "added", "diagram", "x", "ordered", "_"] ["self", "world", "n", "m", "terms"] (defScope s_Sum_init) := ⟨rfl, rfl, rfl, by decide +kernel, rfl, by decide +kernel, by decide +kernel⟩
abbrev s_Sum_terms : Stmt := inClsN 1 (topS 48)
theorem sc_Sum_terms : FnScope ["self"] ["self"] (defScope s_Sum_terms) := ⟨rfl, rfl, rfl, by decide +kernel, rfl, by decide +kernel, by decide +kernel⟩
abbrev s_Sum_at : Stmt := inClsN 2 (topS 48)
theorem sc_Sum_at : FnScope ["self", "diagram"] ["self", "diagram"] (defScope s_Sum_at) := ⟨rfl, rfl, rfl, by decide +kernel, rfl, by decide +kernel, by decide +kernel⟩
abbrev s_Sum_add : Stmt := inClsN 3 (topS 48)
theorem sc_Sum_add : FnScope ["self", "other"] ["self", "other"] (defScope s_Sum_add) := ⟨rfl, rfl, rfl, by decide +kernel, rfl, by decide +kernel, by decide +kernel⟩
abbrev s_Sum_sub : Stmt := inClsN 4 (topS 48)
theorem sc_Sum_sub : FnScope ["self", "other"] ["self", "other"] (defScope s_Sum_sub) := ⟨rfl, rfl, rfl, by decide +kernel, rfl, by decide +kernel, by decide +kernel⟩
abbrev s_Sum_neg : Stmt := inClsN 5 (topS 48)
theorem sc_Sum_neg : FnScope ["self", "turned", "diagram", "x"] ["self"] (defScope s_Sum_neg) := ⟨rfl, rfl, rfl, by decide +kernel, rfl, by decide +kernel, by decide +kernel⟩
abbrev s_Sum_mul : Stmt := inClsN 6 (topS 48)
theorem sc_Sum_mul : FnScope ["self", "other"] ["self", "other"] (defScope s_Sum_mul) := ⟨rfl, rfl, rfl, by decide +kernel, rfl, by decide +kernel, by decide +kernel⟩
abbrev s_Sum_eq : Stmt := inClsN 7 (topS 48)
theorem sc_Sum_eq : FnScope ["self", "other"] ["self", "other"] (defScope s_Sum_eq) := ⟨rfl, rfl, rfl, by decide +kernel, rfl, by decide +kernel, by decide +kernel⟩
abbrev s_Sum_len : Stmt := inClsN 8 (topS 48)
theorem sc_Sum_len : FnScope ["self"] ["self"] (defScope s_Sum_len) := ⟨rfl, rfl, rfl, by decide +kernel, rfl, by decide +kernel, by decide +kernel⟩
abbrev s_Sum_bool : Stmt := inClsN 9 (topS 48)
theorem sc_Sum_bool : FnScope ["self"] ["self"] (defScope s_Sum_bool) := ⟨rfl, rfl, rfl, by decide +kernel, rfl, by decide +kernel, by decide +kernel⟩
abbrev s_Sum_scaled : Stmt := inClsN 10 (topS 48)
theorem sc_Sum_scaled : FnScope ["self", "number"] ["self", "number"] (defScope s_Sum_scaled) := ⟨rfl, rfl, rfl, by decide +kernel, rfl, by decide +kernel, by decide +kernel⟩
abbrev s_Sum_beside : Stmt := inClsN 11 (topS 48)
theorem sc_Sum_beside : FnScope ["self", "other"] ["self", "other"] (defScope s_Sum_beside) := ⟨rfl, rfl, rfl, by decide +kernel, rfl, by decide +kernel, by decide +kernel⟩
abbrev s_Sum_over : Stmt := inClsN 12 (topS 48)
theorem sc_Sum_over : FnScope ["self"] ["self"] (defScope s_Sum_over) := ⟨rfl, rfl, rfl, by decide +kernel, rfl, by decide +kernel, by decide +kernel⟩
abbrev s_Sum_worth : Stmt := inClsN 13 (topS 48)
theorem sc_Sum_worth : FnScope ["self", "powers", "found", "diagram", "x"] ["self"] (defScope s_Sum_worth) := ⟨rfl, rfl, rfl, by decide +kernel, rfl, by decide +kernel, by decide +kernel⟩
abbrev s_Sum_is_in : Stmt := inClsN 14 (topS 48)
theorem sc_Sum_is_in : FnScope ["self", "family"] ["self", "family"] (defScope s_Sum_is_in) := ⟨rfl, rfl, rfl, by decide +kernel, rfl, by decide +kernel, by decide +kernel⟩
section
variable {P : Program} {w : World} {K : PySem.W.Frag} {mg : Str → Option Value} {base : Heap}
theorem FunA.okXN {x qual : Str} {st : Stmt} {f : Addr} {fd : FuncData} {N ps : List Str} {k : Nat} {sp : Sp} (F : FunA K x qual st f fd) (S : FnScope N ps (defScope st)) (len : ∀ vs H Q E, sp vs H Q E → vs.length = ps.length)
    (hbody : ∀ (cdv : Value) (A : Around) (outer : List Env) (s : Shared) (H : Hp) (vs : List V) (Q : VK) (E : XK), Room k (A.deeper (envOfC qual (defScope st) s.heap.objs.size f cdv)) → sp vs H Q E →
      ∃ t, PSs (cxOf (L2N.CX P w) P w K mg base N qual (defScope st) f cdv A outer s H E) (defBody st) t ∧ t { nx := fun _ H' => Q .non H', rt := Q } (start N vs) H) : FnOk P w K mg base (L2N.CX P w) (k + 1) f fd ps sp := by
  obtain ⟨oc, od, dV, kV, doc, pm, an, cdv, ct, osl, rfl, lk, hcd⟩ := F.ex
  exact fn_of lk hcd S len fun A outer s H vs Q E hr hsp => hbody cdv A outer s H vs Q E hr hsp
end

structure SmL (n k : Nat) (D : PyData) : Prop where
  lay : D.canLay0 = true
  dep : D.depth ≤ n
  sho : D.showable = true
  wgt : wt D ≤ k
theorem smL_all {n k : Nat} : ∀ {ds : List PyData}, (∀ D ∈ ds, SmL n k D) → PyData.canLayAll0 ds = true ∧ PyData.depthAll ds ≤ n ∧ PyData.showableAll ds = true ∧ wtAll ds ≤ (k + 2) * ds.length
  | [], _ => ⟨by simp [PyData.canLayAll0], by simp [PyData.depthAll], by simp [PyData.showableAll], by simp [wtAll]⟩
  | D :: ds, h => by
    obtain ⟨h1, h2, h3, h4⟩ := smL_all (ds := ds) fun E hE => h E (List.mem_cons_of_mem _ hE)
    have g := h D List.mem_cons_self
    refine ⟨by simp [PyData.canLayAll0, g.lay, h1], ?_, by simp [PyData.showableAll, g.sho, h3], ?_⟩
    · simp only [PyData.depthAll]
      have := g.dep
      omega
    · simp only [wtAll, List.length_cons, Nat.mul_add]
      have := g.wgt
      omega
theorem smL_list {n k : Nat} {ds : List PyData} (h : ∀ D ∈ ds, SmL n k D) : SmL (n + 1) ((k + 2) * ds.length + 3) (.list ds) := by
  obtain ⟨h1, h2, h3, h4⟩ := smL_all h
  exact ⟨by simp [PyData.canLay0, h1], by simp only [PyData.depth]; omega, by simp [PyData.showable, h3], by simp only [wt]; omega⟩
theorem smL_tuple {n k : Nat} {ds : List PyData} (h : ∀ D ∈ ds, SmL n k D) : SmL (n + 1) ((k + 2) * ds.length + 3) (.tuple ds) := by
  obtain ⟨h1, h2, h3, h4⟩ := smL_all h
  exact ⟨by simp [PyData.canLay0, h1], by simp only [PyData.depth]; omega, by simp [PyData.showable, h3], by simp only [wt]; omega⟩
theorem SmL.shaped {n k : Nat} {D : PyData} (h : SmL n k D) (hn : n ≤ 64) : SeqAt.shaped D = true := by
  show (PyData.canLay0 D && decide (PyData.depth D ≤ 64)) = true
  rw [h.lay, decide_eq_true (Nat.le_trans h.dep hn)]
  rfl
theorem SmL.wide {n k : Nat} {D : PyData} (h : SmL n k D) (hk : k ≤ 16777216) : wt D ≤ sizeLine := by
  rw [sizeLine_eq]
  exact Nat.le_trans h.wgt hk
theorem small_log {i : Int} (h : i.natAbs < 2 ^ 200) : i.natAbs.log2 < 1920 := by
  by_cases e : i.natAbs = 0
  · rw [e]
    decide
  · exact (Nat.log2_lt e).mpr (Nat.lt_of_lt_of_le h (Nat.pow_le_pow_right (by decide) (by decide)))
theorem smL_int {i : Int} (h : i.natAbs < 2 ^ 200) : SmL 0 1921 (.int i) := ⟨by simp [PyData.canLay0], by simp [PyData.depth], by simp [PyData.showable, small_log h], by simp only [wt]; omega⟩
theorem smL_pair {u v : Int} (hu : u.natAbs < 2 ^ 200) (hv : v.natAbs < 2 ^ 200) : SmL 1 4000 (.tuple [.int u, .int v]) := by
  have h := smL_tuple (ds := [.int u, .int v]) (n := 0) (k := 1921) fun D hD => by
    rcases List.mem_cons.mp hD with rfl | hD
    · exact smL_int hu
    · rcases List.mem_cons.mp hD with rfl | hD
      · exact smL_int hv
      · cases hD
  exact ⟨h.lay, h.dep, h.sho, Nat.le_trans h.wgt (by show (1921 + 2) * 2 + 3 ≤ 4000; decide)⟩
theorem ok_n : PyData.strOk ("!n" : Str) = true := by decide +kernel
theorem ok_b : PyData.strOk ("!b" : Str) = true := by decide +kernel
theorem ok_w : PyData.strOk ("!w" : Str) = true := by decide +kernel
theorem rl_n : (reprText ("!n" : Str)).length = 4 := by decide +kernel
theorem rl_b : (reprText ("!b" : Str)).length = 4 := by decide +kernel
theorem rl_w : (reprText ("!w" : Str)).length = 4 := by decide +kernel
theorem smL_n : SmL 1 4000 (.str "!n") := ⟨by simp [PyData.canLay0, ok_n], by simp [PyData.depth], by simp [PyData.showable], by simp only [wt, rl_n]; omega⟩
theorem smL_b : SmL 1 4000 (.str "!b") := ⟨by simp [PyData.canLay0, ok_b], by simp [PyData.depth], by simp [PyData.showable], by simp only [wt, rl_b]; omega⟩
theorem smL_w : SmL 1 4000 (.str "!w") := ⟨by simp [PyData.canLay0, ok_w], by simp [PyData.depth], by simp [PyData.showable], by simp only [wt, rl_w]; omega⟩
theorem smL_non : SmL 1 4000 .none := ⟨by simp [PyData.canLay0], by simp [PyData.depth], by simp [PyData.showable], by simp only [wt]; omega⟩
theorem smL_bool (b : Bool) : SmL 1 4000 (.bool b) := ⟨by simp [PyData.canLay0], by simp [PyData.depth], by simp [PyData.showable], by simp only [wt]; omega⟩

section
variable {P : Program} {w : World} {K : PySem.W.Frag} {mg : Str → Option Value} {base : Heap}
/-! ### is_world -/
def spIsWorld (K : PySem.W.Frag) : Sp := fun vs H Q _ => ∃ (a : Addr) (p d : Int), vs = [.ref a] ∧ SqT K H a [.int p, .int d] ∧ Q (.bl (isW p d)) H
theorem ok_is_world {f : Addr} {fd : FuncData} {aP : Addr} (F : Fun K "is_world" "is_world" s_is_world f fd) (m_PRIMES : mg "PRIMES" = some (.ref aP)) (tP : ∀ H, SqT K H aP (primes.map V.int)) :
    FnOk P w K mg base CX0 1 f fd ["world"] (spIsWorld K) := by
  have r_PRIMES : RelV (.ref aP) (.ref aP) := rfl
  refine F.ok sc_is_world (fun vs H Q E h => ?_) (fun cdv A outer s H vs Q E hr h => ?_)
  · obtain ⟨a, p, d, rfl, _⟩ := h
    rfl
  · obtain ⟨a, p, d, rfl, hS, q⟩ := h
    refine ⟨_, (pss_cons (ps_asg (pv 0) (pg_tup rfl (pgs_cons (pg_name (i := 1) sc_is_world.nd rfl (.inl rfl)) (pgs_cons (pg_name (i := 2) sc_is_world.nd rfl (.inl rfl)) pgs_nil))))
  (pss_cons (ps_if (pt_cmpR op_eq (pv 1) pe_int (nomark _)) (pss_one (ps_ret (pe_chain op_le op_le (pe_un un_neg pe_int) (pv 2) pe_int))) pss_nil)
  (pss_one (ps_ret (pe_and (pe_cmpR op_in_seq (pv 1) (pe_glob rfl m_PRIMES r_PRIMES) (by with_unfolding_all rfl)) (pe_one (pe_chain op_le op_lt pe_int (pv 2) (pv 1)))))))), ?_⟩
    refine ⟨_, rfl, a, _, rfl, hS, rfl, _, _, rfl, _, _, rfl, rfl, ?_⟩
    refine ⟨_, rfl, rfl, _, rfl, ite2 (fun e => ?_) (fun e => ?_)⟩
    · have e0 : p = 0 := V.int.inj (of_decide_eq_true e)
      have ew : isW p d = if -20 ≤ d then decide (d ≤ 20) else false := if_pos e0
      rw [ew] at q
      refine ⟨_, rfl, _, rfl, _, _, rfl, rfl, _, rfl, ite2 (fun e1 => ?_) (fun e1 => ?_)⟩
      · rw [if_pos (of_decide_eq_true e1)] at q
        exact ⟨_, _, rfl, rfl, q⟩
      · rw [if_neg (fun z => e1 (decide_eq_true z))] at q
        exact q
    · have e0 : p ≠ 0 := fun z => e (decide_eq_true (congrArg V.int z))
      have ew : isW p d = (if inV (.int p) (primes.map V.int) = true then (if 0 ≤ d then decide (d < p) else false) else false) := if_neg e0
      rw [ew] at q
      refine ⟨_, rfl, aP, _, rfl, .inr (tP _), rfl, by decide, _, rfl, ite2 (fun e1 => ?_) (fun e1 => ?_)⟩
      · have e1' : inV (.int p) (primes.map V.int) = true := e1
        rw [if_pos e1'] at q
        refine ⟨_, rfl, _, _, rfl, rfl, _, rfl, ite2 (fun e2 => ?_) (fun e2 => ?_)⟩
        · rw [if_pos (of_decide_eq_true e2)] at q
          exact ⟨_, rfl, _, _, rfl, rfl, q⟩
        · rw [if_neg (fun z => e2 (decide_eq_true z))] at q
          exact q
      · have e1' : ¬ inV (.int p) (primes.map V.int) = true := e1
        rw [if_neg e1'] at q
        have e2 : inV (.int p) (primes.map V.int) = false := Bool.eq_false_iff.mpr e1'
        exact q
end

section
variable {P : Program} {w : World} {K : PySem.W.Frag} {mg : Str → Option Value} {base : Heap}
/-! ### _law_number -/
def spPlain : Sp := fun vs H Q _ => ∃ n : Int, vs = [.int n] ∧ Q (.int (if n < 0 then -n else n)) H
theorem ok_plain {f : Addr} {fd : FuncData} (F : Fun K "_law_number" "_law_number" s_law_number f fd) : FnOk P w K mg base CX0 1 f fd ["cell"] spPlain := by
  refine F.ok sc_law_number (fun vs H Q E h => ?_) (fun cdv A outer s H vs Q E hr h => ?_)
  · obtain ⟨n, rfl, _⟩ := h
    rfl
  · obtain ⟨n, rfl, q⟩ := h
    refine ⟨_, (pss_cons (ps_if (pt_cmpR op_lt (pv 0) pe_int (nomark _)) (pss_one (ps_ret (pe_op op_sub pe_int (pv 0)))) pss_nil)
  (pss_one (ps_ret (pv 0))))
    , ?_⟩
    refine ⟨_, rfl, _, _, rfl, rfl, _, rfl, ite2 (fun e => ?_) (fun e => ?_)⟩
    · rw [if_pos (of_decide_eq_true e)] at q
      have q' : Q (.int (0 - n)) H := by
        rw [show (0 : Int) - n = -n by omega]
        exact q
      exact ⟨_, rfl, _, _, rfl, rfl, q'⟩
    · rw [if_neg (fun z => e (decide_eq_true z))] at q
      exact ⟨_, rfl, q⟩
end

section
variable {P : Program} {w : World} {K : PySem.W.Frag} {mg : Str → Option Value} {base : Heap}
/-! ### _law_next -/
def spNext : Sp := fun vs H Q _ => ∃ (a : Addr) (ds : List Int), vs = [.ref a] ∧ H a = some (.lst (ds.map V.int)) ∧ ∀ (n : Int) (ds' : List Int), Q (.int n) (upd H a (.lst (ds'.map V.int)))
theorem ok_next {f : Addr} {fd : FuncData} (F : Fun K "_law_next" "_law_next" s_law_next f fd) : FnOk P w K mg base CX0 1 f fd ["draws"] spNext := by
  refine F.ok sc_law_next (fun vs H Q E h => ?_) (fun cdv A outer s H vs Q E hr h => ?_)
  · obtain ⟨a, ds, rfl, _⟩ := h
    rfl
  · obtain ⟨a, ds, rfl, hL, q⟩ := h
    refine ⟨_, (pss_cons (ps_if (pt_truth (pv 0) (by intro _; rfl)) (pss_one (ps_ret (pe_bm0 PySem.F.plainAttrs_list PySem.F.slot_list_pop PySem.F.type_list_pop mt_pop (pv 0)))) pss_nil)
  (pss_one (ps_ret pe_int)))
    , ?_⟩
    refine ⟨_, rfl, _, .inl ⟨_, .inl (.inl hL), rfl⟩, ite2 (fun e => ?_) (fun e => ?_)⟩
    · have hn : ds ≠ [] := fun z => by subst z; cases e
      have hm : ds.map V.int = ds.dropLast.map V.int ++ [V.int (ds.getLast hn)] := by
        rw [← List.map_singleton, ← List.map_append, List.dropLast_concat_getLast]
      refine ⟨_, rfl, .inl ⟨rfl, _, .inl (.inl hL)⟩, a, _, .int (ds.getLast hn), rfl, rfl, hL, ?_, ?_⟩
      · rw [hm]; simp
      · rw [hm, List.dropLast_concat]
        exact q _ _
    · have := q 0 ds
      rw [upd_self hL] at this
      exact this
end

section
variable {P : Program} {w : World} {K : PySem.W.Frag} {mg : Str → Option Value} {base : Heap}
/-! ### _law_draws -/
def spDraws (K : PySem.W.Frag) : Sp := fun vs H Q _ => ∃ (a : Addr) (ns : List Int), vs = [.ref a] ∧ SqL K H a (ns.map V.int) ∧ ns.length ≤ 63 ∧
  ∀ H' r (ds : List Int), Same H H' → H r = none → H' r = some (.lst (ds.map V.int)) → Q (.ref r) H'
theorem ok_draws {f : Addr} {fd : FuncData} {a_law_number : Addr} {fd_law_number : FuncData} (F : Fun K "_law_draws" "_law_draws" s_law_draws f fd) (z_range : mg "range" = none) (z_int : mg "int" = none)
    (G_law_number : FnOk P w K mg base CX0 1 a_law_number fd_law_number ["cell"] spPlain) (g_law_number : mg "_law_number" = some (.ref a_law_number)) (k_law_number : PySem.W.keepIn K (.ref a_law_number) = true) (b_law_number : Binds K fd_law_number ["cell"] []) :
    FnOk P w K mg base CX0 2 f fd ["script"] (spDraws K) := by
  refine F.ok sc_law_draws (fun vs H Q E h => ?_) (fun cdv A outer s H vs Q E hr h => ?_)
  · obtain ⟨n, _, rfl, _⟩ := h
    rfl
  · obtain ⟨a, ns, rfl, hS, hlen, q⟩ := h
    refine ⟨_, (pss_cons (ps_set (i := 1) sc_law_draws.nd rfl (.inl rfl) (pe_lst pa_nil))
  (pss_cons (ps_for PassesOwn.never rfl (pi_list (pv 0)) (pg_name (i := 2) sc_law_draws.nd rfl (.inl rfl)) (pss_cons (ps_set (i := 3) sc_law_draws.nd rfl (.inl rfl) (pe_call G_law_number (hr.mono (by decide)) rfl g_law_number k_law_number b_law_number .nil pass0 (pa_cons (pv 2) pa_nil)))
  (pss_one (ps_if (pt_cmpR op_ge (pv 3) pe_int (nomark _)) (pss_one (ps_for PassesOwn.never rfl (pi_range1 rfl z_range (pa_cons pe_int pa_nil)) (pg_name (i := 4) sc_law_draws.nd rfl (.inl rfl)) (pss_cons (ps_if (pt_cmpR op_eq (pv 3) pe_int (nomark _)) (pss_one ps_break) pss_nil)
  (pss_cons (ps_expr (pe_bm PySem.F.plainAttrs_list PySem.F.slot_list_append PySem.F.type_list_append mt_append (pv 1) (pa_cons (pe_op op_mod (pe_callTy call_int1 (by rfl) z_int boot_int (pa_cons (pv 3) pa_nil)) pe_int) pa_nil)))
  (pss_one (ps_set (i := 3) sc_law_draws.nd rfl (.inl rfl) (pe_op op_fdiv (pv 3) pe_int))))))) (pss_cons (ps_set (i := 5) sc_law_draws.nd rfl (.inl rfl) (pe_op op_mod (pe_callTy call_int1 (by rfl) z_int boot_int (pa_cons (pe_op op_add (pe_op op_mul (pv 3) pe_int) pe_int) pa_nil)) pe_int))
  (pss_cons (ps_set (i := 6) sc_law_draws.nd rfl (.inl rfl) (pe_op op_mod (pe_callTy call_int1 (by rfl) z_int boot_int (pa_cons (pe_op op_add (pe_op op_mul (pv 5) pe_int) (pv 3)) pa_nil)) pe_int))
  (pss_one (ps_expr (pe_bm PySem.F.plainAttrs_list PySem.F.slot_list_extend PySem.F.type_list_extend mt_extend (pv 1) (pa_cons (pe_lst (pa_cons (pe_op op_mod (pe_callTy call_int1 (by rfl) z_int boot_int (pa_cons (pv 3) pa_nil)) pe_int) (pa_cons (pe_op op_mod (pe_callTy call_int1 (by rfl) z_int boot_int (pa_cons (pv 5) pa_nil)) pe_int) (pa_cons (pe_op op_mod (pe_callTy call_int1 (by rfl) z_int boot_int (pa_cons (pv 6) pa_nil)) pe_int) pa_nil)))) pa_nil))))))))))
  (pss_one (ps_ret (pv 1)))))
    , ?_⟩
    refine ⟨Nat.zero_le _, fun o no => ?_⟩
    have s1 : Same H (upd H o (.lst [])) := same_upd no
    refine ⟨.ref a, rfl, a, rfl, ⟨_, s1.seq hS⟩, for_list (K := K) (a := a) (xs := ns.map V.int) (fun i σ H' => ∃ v2 v3 v4 v5 v6 ds, σ = [some (.ref a), some (.ref o), v2, v3, v4, v5, v6] ∧ Same H H' ∧ H' o = some (.lst (ds.map V.int)) ∧ ds.length ≤ 60 * i)
      ⟨none, none, none, none, none, [], rfl, s1, upd_same, Nat.le_refl _⟩ (fun i σ H' _ ⟨_, _, _, _, _, _, _, sm, _⟩ => sm.seq hS) ?_ ?_⟩
    · rintro i y σ H1 hi ⟨v2, v3, v4, v5, v6, ds, rfl, sm, hL, hl⟩
      have hi63 : i < 63 := by
        have := (List.getElem?_eq_some_iff.mp hi).1
        rw [List.length_map] at this
        omega
      obtain ⟨z, hz, rfl⟩ := map_int_get hi
      refine ⟨_, rfl, z, rfl, ?_⟩
      generalize hr0 : (if z < 0 then -z else z) = r0
      have h0 : 0 ≤ r0 := by
        subst hr0
        split <;> omega
      refine ⟨_, rfl, _, _, rfl, rfl, _, rfl, ite2 (fun e => ?_) (fun e => ?_)⟩
      · refine ⟨60, rfl, by decide, by decide, for_range (lo := 0) (n := 60) (fun j σ H' => ∃ r v4 ds', σ = [some (.ref a), some (.ref o), some (.int z), some (.int r), v4, v5, v6] ∧ 0 ≤ r ∧ Same H H' ∧ H' o = some (.lst (ds'.map V.int)) ∧ ds'.length ≤ 60 * i + j)
          ⟨r0, v4, ds, rfl, h0, sm, hL, hl⟩ ?_ ?_⟩
        · rintro j σ H2 hj ⟨r, v4', ds', rfl, hr0', sm2, hL2, hl2⟩
          refine ⟨_, rfl, rfl, _, rfl, ite2 (fun e1 => ?_) (fun e1 => ?_)⟩
          · exact ⟨_, _, _, _, _, ds', rfl, sm2, hL2, by omega⟩
          · refine ⟨.ref o, rfl, .inl ⟨rfl, _, .inl (.inl hL2)⟩, .int r, rfl, .inl ⟨r, rfl, r, 1000, rfl, rfl, (show (0:Int) < 1000 by decide), o, _, _, rfl, rfl, hL2, ?_, ?_⟩⟩
            · rw [List.length_map]
              exact small_of (by omega)
            · refine ⟨_, rfl, r, 1000, rfl, rfl, ⟨by decide, by decide⟩, ?_⟩
              refine ⟨r / 1000, _, ds' ++ [r % 1000], rfl, by omega, Same.mut sm2 no, ?_, ?_⟩
              · rw [upd_same, List.map_append]
                rfl
              · rw [List.length_append]
                show ds'.length + 1 ≤ _
                omega
        · rintro σ H2 ⟨r, v4', ds', rfl, hr0', sm2, hL2, hl2⟩
          exact ⟨_, _, _, _, _, ds', rfl, sm2, hL2, by omega⟩
      · have c1 : CMul r0 48271 := .inr ⟨by decide, by decide⟩
        refine ⟨.int r0, rfl, r0, 48271, rfl, rfl, c1, _, 11, rfl, rfl, .inl ⟨_, rfl, _, 2147483647, rfl, rfl, (show (0:Int) < 2147483647 by decide), ?_⟩⟩
        have c2 : ∀ x : Int, CMul x 69621 := fun _ => .inr ⟨by decide, by decide⟩
        refine ⟨_, rfl, _, 69621, rfl, rfl, c2 _, .int r0, rfl, _, r0, rfl, rfl, .inl ⟨_, rfl, _, 2147483629, rfl, rfl, (show (0:Int) < 2147483629 by decide), ?_⟩⟩
        have p1000 : (0:Int) < 1000 := by decide
        refine ⟨.ref o, rfl, .inl ⟨rfl, _, .inl (.inl hL)⟩, ?_⟩
        refine ⟨.int r0, rfl, .inl ⟨r0, rfl, r0, 1000, rfl, rfl, p1000, _, rfl, .inl ⟨_, rfl, _, 1000, rfl, rfl, p1000, _, rfl, .inl ⟨_, rfl, _, 1000, rfl, rfl, p1000, ?_⟩⟩⟩⟩
        refine ⟨(by show 3 ≤ sizeLine; decide), fun c nc => ?_⟩
        have hoc : o ≠ c := ne_of_none hL nc
        refine ⟨o, c, ds.map V.int, _, rfl, rfl, ?_, upd_same, ?_, ?_⟩
        · rw [upd_ne hoc]
          exact hL
        · rw [List.length_map]
          exact Nat.le_of_lt (small_of (show ds.length + 3 ≤ 100000 by omega))
        · refine ⟨_, _, _, _, _, ds ++ [r0 % 1000, (r0 * 48271 + 11) % 2147483647 % 1000, ((r0 * 48271 + 11) % 2147483647 * 69621 + r0) % 2147483629 % 1000], rfl, Same.mut (Same.trans sm (same_upd nc)) no, ?_, ?_⟩
          · rw [upd_same, List.map_append]
            rfl
          · rw [List.length_append]
            show ds.length + 3 ≤ _
            omega
    · rintro σ H1 ⟨v2, v3, v4, v5, v6, ds, rfl, sm, hL, hl⟩
      exact ⟨_, rfl, q H1 o ds sm no hL⟩
end

section
variable {P : Program} {w : World} {K : PySem.W.Frag} {mg : Str → Option Value} {base : Heap}
/-! ### check_world -/
def spCheckWorld (K : PySem.W.Frag) (CW : Addr) : Sp := fun vs H Q E => ∃ (a : Addr) (p d : Int), vs = [.ref a] ∧ SqT K H a [.int p, .int d] ∧ (isW p d = true → Q .non H) ∧ (isW p d = false → E (.ref CW) none H)
theorem ok_check_world {f CW a_is_world : Addr} {fd fd_is_world : FuncData} (F : Fun K "check_world" "check_world" s_check_world f fd) (T : ErrC K mg "NotWorld" CW)
    (G_is_world : FnOk P w K mg base CX0 1 a_is_world fd_is_world ["world"] (spIsWorld K)) (g_is_world : mg "is_world" = some (.ref a_is_world)) (k_is_world : PySem.W.keepIn K (.ref a_is_world) = true) (b_is_world : Binds K fd_is_world ["world"] []) :
    FnOk P w K mg base (L2N.CX P w) 2 f fd ["world"] (spCheckWorld K CW) := by
  obtain ⟨gc_NotWorld, x_NotWorld, kc_NotWorld, bc_NotWorld, tc_NotWorld⟩ := T
  refine F.okXN sc_check_world (fun vs H Q E h => ?_) (fun cdv A outer s H vs Q E hr h => ?_)
  · obtain ⟨a, p, d, rfl, _⟩ := h
    rfl
  · obtain ⟨a, p, d, rfl, hS, q1, q2⟩ := h
    refine ⟨_, (pss_one (ps_if (pt_not (pt_val (pe_call G_is_world (hr.mono (by decide)) rfl g_is_world k_is_world b_is_world .nil pass0 (pa_cons (pv 0) pa_nil)))) (pss_one (L2N.ps_raise rfl (L2N.takes_of rfl rfl rfl rfl) (L2N.pmk_own PySem.F.excBase_ValueError x_NotWorld gc_NotWorld kc_NotWorld (raises_own bc_NotWorld tc_NotWorld) rfl))) pss_nil))
    , ?_⟩
    refine ⟨_, rfl, a, p, d, rfl, hS, _, rfl, ?_⟩
    cases e : isW p d with
    | true => exact iteF (q1 e)
    | false => exact iteT (q2 e)
end

section
variable {P : Program} {w : World} {K : PySem.W.Frag} {mg : Str → Option Value} {base : Heap}
/-! ### is_number -/
def isN (p u v : Int) : Bool := if p = 0 then (if 1 ≤ v then decide (gI u v = 1) else false) else (if v = 1 then (if 0 ≤ u then decide (u < p) else false) else false)
def spIsNumber (K : PySem.W.Frag) (CW : Addr) : Sp := fun vs H Q E => ∃ (a x : Addr) (p d u v : Int), vs = [.ref a, .ref x] ∧ SqT K H a [.int p, .int d] ∧ SqT K H x [.int u, .int v] ∧ (isW p d = true → Q (.bl (isN p u v)) H) ∧ (isW p d = false → E (.ref CW) none H)
theorem ok_is_number {f CW a_check_world : Addr} {fd fd_check_world : FuncData} (F : Fun K "is_number" "is_number" s_is_number f fd) (m_gcd : mg "gcd" = some (.builtin "math.gcd"))
    (G_check_world : FnOk P w K mg base (L2N.CX P w) 2 a_check_world fd_check_world ["world"] (spCheckWorld K CW)) (g_check_world : mg "check_world" = some (.ref a_check_world)) (k_check_world : PySem.W.keepIn K (.ref a_check_world) = true) (b_check_world : Binds K fd_check_world ["world"] []) :
    FnOk P w K mg base (L2N.CX P w) 3 f fd ["world", "x"] (spIsNumber K CW) := by
  refine F.okXN sc_is_number (fun vs H Q E h => ?_) (fun cdv A outer s H vs Q E hr h => ?_)
  · obtain ⟨a, x, p, d, u, v, rfl, _⟩ := h
    rfl
  · obtain ⟨a, x, p, d, u, v, rfl, hS, hX, q1, q2⟩ := h
    refine ⟨_, (pss_cons (ps_expr (pe_call G_check_world (hr.mono (by decide)) rfl g_check_world k_check_world b_check_world .nil (L2N.passes_call (L2N.takes_of rfl rfl rfl rfl) (fun _ _ _ _ h => h)) (pa_cons (pv 0) pa_nil)))
  (pss_cons (ps_asg (pv 0) (pg_tup rfl (pgs_cons (pg_name (i := 2) sc_is_number.nd rfl (.inl rfl)) (pgs_cons (pg_name (i := 3) sc_is_number.nd rfl (.inl rfl)) pgs_nil))))
  (pss_cons (ps_asg (pv 1) (pg_tup rfl (pgs_cons (pg_name (i := 4) sc_is_number.nd rfl (.inl rfl)) (pgs_cons (pg_name (i := 5) sc_is_number.nd rfl (.inl rfl)) pgs_nil))))
  (pss_cons (ps_if (pt_cmpR op_eq (pv 2) pe_int (nomark _)) (pss_one (ps_ret (pe_and (pe_cmpR op_ge (pv 5) pe_int (nomark _)) (pe_one (pe_cmpR op_eq (pe_callBfun cr_gcd rfl m_gcd (pa_cons (pv 4) (pa_cons (pv 5) pa_nil))) pe_int (nomark _)))))) pss_nil)
  (pss_one (ps_ret (pe_and (pe_cmpR op_eq (pv 5) pe_int (nomark _)) (pe_one (pe_chain op_le op_lt pe_int (pv 4) (pv 2))))))))))
    , ?_⟩
    refine ⟨_, rfl, a, p, d, rfl, hS, fun ew => ?_, q2⟩
    have q := q1 ew
    refine ⟨_, rfl, a, _, rfl, hS, rfl, _, _, rfl, _, _, rfl, rfl, ?_⟩
    refine ⟨_, rfl, x, _, rfl, hX, rfl, _, _, rfl, _, _, rfl, rfl, ?_⟩
    refine ⟨_, rfl, rfl, _, rfl, ite2 (fun e => ?_) (fun e => ?_)⟩
    · have e0 : p = 0 := V.int.inj (of_decide_eq_true e)
      have ew : isN p u v = if 1 ≤ v then decide (gI u v = 1) else false := if_pos e0
      rw [ew] at q
      refine ⟨_, rfl, _, _, rfl, rfl, _, rfl, ite2 (fun e1 => ?_) (fun e1 => ?_)⟩
      · rw [if_pos (of_decide_eq_true e1)] at q
        have q' : Q (.bl (decide (V.int (gI u v) = V.int 1))) H := by
          rw [show decide (V.int (gI u v) = V.int 1) = decide (gI u v = 1) from decide_eq_decide.mpr ⟨V.int.inj, congrArg V.int⟩]
          exact q
        exact ⟨_, rfl, _, rfl, u, v, rfl, rfl, q'⟩
      · rw [if_neg (fun z => e1 (decide_eq_true z))] at q
        exact q
    · have e0 : p ≠ 0 := fun z => e (decide_eq_true (congrArg V.int z))
      have ew : isN p u v = (if v = 1 then (if 0 ≤ u then decide (u < p) else false) else false) := if_neg e0
      rw [ew] at q
      refine ⟨_, rfl, rfl, _, rfl, ite2 (fun e1 => ?_) (fun e1 => ?_)⟩
      · rw [if_pos (V.int.inj (of_decide_eq_true e1))] at q
        refine ⟨_, rfl, _, _, rfl, rfl, _, rfl, ite2 (fun e2 => ?_) (fun e2 => ?_)⟩
        · rw [if_pos (of_decide_eq_true e2)] at q
          exact ⟨_, rfl, _, _, rfl, rfl, q⟩
        · rw [if_neg (fun z => e2 (decide_eq_true z))] at q
          exact q
      · rw [if_neg (fun z => e1 (decide_eq_true (congrArg V.int z)))] at q
        exact q
end

section
variable {P : Program} {w : World} {K : PySem.W.Frag} {mg : Str → Option Value} {base : Heap}
/-! ### check_number -/
def spCheckNumber (K : PySem.W.Frag) (CW CN : Addr) : Sp := fun vs H Q E => ∃ (a x : Addr) (p d u v : Int), vs = [.ref a, .ref x] ∧ SqT K H a [.int p, .int d] ∧ SqT K H x [.int u, .int v] ∧
  (isW p d = true → isN p u v = true → Q .non H) ∧ (isW p d = true → isN p u v = false → E (.ref CN) none H) ∧ (isW p d = false → E (.ref CW) none H)
theorem ok_check_number {f CW CN a_is_number : Addr} {fd fd_is_number : FuncData} (F : Fun K "check_number" "check_number" s_check_number f fd) (T : ErrC K mg "NotNumber" CN)
    (G_is_number : FnOk P w K mg base (L2N.CX P w) 3 a_is_number fd_is_number ["world", "x"] (spIsNumber K CW)) (g_is_number : mg "is_number" = some (.ref a_is_number)) (k_is_number : PySem.W.keepIn K (.ref a_is_number) = true) (b_is_number : Binds K fd_is_number ["world", "x"] []) :
    FnOk P w K mg base (L2N.CX P w) 4 f fd ["world", "x"] (spCheckNumber K CW CN) := by
  obtain ⟨gc_NotNumber, x_NotNumber, kc_NotNumber, bc_NotNumber, tc_NotNumber⟩ := T
  refine F.okXN sc_check_number (fun vs H Q E h => ?_) (fun cdv A outer s H vs Q E hr h => ?_)
  · obtain ⟨a, x, p, d, u, v, rfl, _⟩ := h
    rfl
  · obtain ⟨a, x, p, d, u, v, rfl, hS, hX, q1, q2, q3⟩ := h
    refine ⟨_, (pss_one (ps_if (pt_not (pt_val (pe_call G_is_number (hr.mono (by decide)) rfl g_is_number k_is_number b_is_number .nil (L2N.passes_call (L2N.takes_of rfl rfl rfl rfl) (fun _ _ _ _ h => h)) (pa_cons (pv 0) (pa_cons (pv 1) pa_nil))))) (pss_one (L2N.ps_raise rfl (L2N.takes_of rfl rfl rfl rfl) (L2N.pmk_own PySem.F.excBase_ValueError x_NotNumber gc_NotNumber kc_NotNumber (raises_own bc_NotNumber tc_NotNumber) rfl))) pss_nil))
    , ?_⟩
    refine ⟨_, rfl, _, rfl, a, x, p, d, u, v, rfl, hS, hX, fun ew => ?_, q3⟩
    refine ⟨_, rfl, ?_⟩
    cases e : isN p u v with
    | true => exact iteF (q1 ew e)
    | false => exact iteT (q2 ew e)
end

section
variable {P : Program} {w : World} {K : PySem.W.Frag} {mg : Str → Option Value} {base : Heap}
/-! ### _lowest -/
def spLowest : Sp := fun vs H Q _ => ∃ a b : Int, vs = [.int a, .int b] ∧ b ≠ 0 ∧ b.natAbs < 1073741824 ∧ ∀ r, H r = none → Q (.ref r) (upd H r (.tup [.int (low a b).1, .int (low a b).2]))
theorem ok_lowest {f : Addr} {fd : FuncData} (F : Fun K "_lowest" "_lowest" s_lowest_ f fd) (m_gcd : mg "gcd" = some (.builtin "math.gcd")) : FnOk P w K mg base CX0 1 f fd ["a", "b"] spLowest := by
  refine F.ok sc_lowest_ (fun vs H Q E h => ?_) (fun cdv A outer s H vs Q E hr h => ?_)
  · obtain ⟨a, b, rfl, _⟩ := h
    rfl
  · obtain ⟨a, b, rfl, hb, hl, q⟩ := h
    have hg := gI_pos (a := a) hb
    have hg2 := gI_le (a := a) hb
    refine ⟨_, (pss_cons (ps_set (i := 2) sc_lowest_.nd rfl (.inl rfl) (pe_callBfun cr_gcd rfl m_gcd (pa_cons (pv 0) (pa_cons (pv 1) pa_nil))))
  (pss_cons (ps_if (pt_cmpR op_lt (pv 1) pe_int (nomark _)) (pss_one (ps_set (i := 2) sc_lowest_.nd rfl (.inl rfl) (pe_un un_neg (pv 2)))) pss_nil)
  (pss_one (ps_ret (pe_tup (pa_cons (pe_op op_fdivN (pv 0) (pv 2)) (pa_cons (pe_op op_fdivN (pv 1) (pv 2)) pa_nil)))))))
    , ?_⟩
    refine ⟨_, rfl, _, rfl, a, b, rfl, ?_⟩
    refine ⟨_, rfl, _, _, rfl, rfl, _, rfl, ite2 (fun e => ?_) (fun e => ?_)⟩
    · have e0 : b < 0 := of_decide_eq_true e
      have c : CDivN a (-gI a b) := ⟨by omega, by omega⟩
      refine ⟨_, rfl, _, rfl, ?_⟩
      refine ⟨_, rfl, _, rfl, a, -gI a b, rfl, rfl, c, _, rfl, _, rfl, b, -gI a b, rfl, rfl, c, (by show 2 ≤ sizeLine; decide), fun r nr => ?_⟩
      have h1 := q r nr
      unfold low at h1
      rw [if_pos e0] at h1
      rw [← fdiv_negg a _ (Int.le_of_lt hg), ← fdiv_negg b _ (Int.le_of_lt hg)] at h1
      exact h1
    · have e0 : ¬ b < 0 := fun z => e (decide_eq_true z)
      have c : CDivN a (gI a b) := ⟨by omega, by omega⟩
      refine ⟨_, rfl, _, rfl, a, gI a b, rfl, rfl, c, _, rfl, _, rfl, b, gI a b, rfl, rfl, c, (by show 2 ≤ sizeLine; decide), fun r nr => ?_⟩
      have h1 := q r nr
      unfold low at h1
      rw [if_neg e0] at h1
      rw [← Int.fdiv_eq_ediv_of_nonneg a (Int.le_of_lt hg), ← Int.fdiv_eq_ediv_of_nonneg b (Int.le_of_lt hg)] at h1
      exact h1
end

section
variable {P : Program} {w : World} {K : PySem.W.Frag} {mg : Str → Option Value} {base : Heap}
/-! ### _inverse -/
def spInverse : Sp := fun vs H Q _ => ∃ p b : Int, vs = [.int p, .int b] ∧ p ∈ primes ∧ b % p ≠ 0 ∧ ∀ k, 1 ≤ k → k < p → k * (b % p) % p = 1 → Q (.int k) H
theorem ok_inverse {f : Addr} {fd : FuncData} (F : Fun K "_inverse" "_inverse" s_inverse_ f fd) : FnOk P w K mg base CX0 1 f fd ["p", "b"] spInverse := by
  refine F.ok sc_inverse_ (fun vs H Q E h => ?_) (fun cdv A outer s H vs Q E hr h => ?_)
  · obtain ⟨p, b, rfl, _⟩ := h
    rfl
  · obtain ⟨p, b, rfl, hp, hb, q⟩ := h
    have hp2 := prime_pos hp
    have hpos : 0 < p := by omega
    obtain ⟨i0, i1, i2, ei⟩ := inv_ex hp (Int.emod_nonneg b (by omega)) (Int.emod_lt_of_pos b hpos) hb
    refine ⟨_, (pss_cons (ps_set (i := 2) sc_inverse_.nd rfl (.inl rfl) (pe_op op_mod (pv 1) (pv 0)))
  (pss_cons (ps_set (i := 3) sc_inverse_.nd rfl (.inl rfl) pe_int)
  (pss_cons (ps_while PassesOwn.never (pt_cmpR op_ne (pe_op op_mod (pe_op op_mul (pv 3) (pv 2)) (pv 0)) pe_int (nomark _)) (pss_one (ps_aug (i := 3) sc_inverse_.nd rfl (.inl rfl) pe_int ip_add)))
  (pss_one (ps_ret (pv 3))))))
    , ?_⟩
    refine ⟨_, rfl, _, rfl, b, p, rfl, rfl, hpos, ?_⟩
    refine ⟨fun m σ H' => ∃ k : Int, σ = [some (.int p), some (.int b), some (.int (b % p)), some (.int k)] ∧ H' = H ∧ 1 ≤ k ∧ k ≤ i0 ∧ m = (i0 - k).toNat, ⟨_, 1, rfl, rfl, by omega, i1, rfl⟩, ?_⟩
    rintro m σ H' ⟨k, rfl, rfl, k1, k2, rfl⟩
    have c1 : CMul k (b % p) := .inl ⟨by omega, by omega⟩
    refine ⟨_, rfl, _, rfl, k, b % p, rfl, rfl, c1, _, rfl, _, p, rfl, rfl, hpos, rfl, _, rfl, ?_⟩
    by_cases e : k * (b % p) % p = 1
    · rw [decide_eq_true (congrArg V.int e)]
      exact iteF ⟨_, rfl, q k k1 (by omega) e⟩
    · rw [decide_eq_false (fun z => e (V.int.inj z))]
      have hk : k ≠ i0 := fun z => e (by rw [z]; exact ei)
      exact iteT ⟨_, fun _ _ n => n, _, rfl, _, _, rfl, rfl, _, by omega, k + 1, rfl, rfl, by omega, by omega, rfl⟩
end

section
variable {P : Program} {w : World} {K : PySem.W.Frag} {mg : Str → Option Value} {base : Heap}
/-! ### number -/
def spNumber (K : PySem.W.Frag) (CW CB : Addr) : Sp := fun vs H Q E => ∃ (x : Addr) (p d a b : Int), vs = [.ref x, .int a, .int b] ∧ SqT K H x [.int p, .int d] ∧ b.natAbs < 1073741824 ∧ (isW p d = false → E (.ref CW) none H) ∧
  (isW p d = true → bad p b → E (.ref CB) none H) ∧ (isW p d = true → ¬ bad p b → ∀ r u v, IsNum p a b u v → H r = none → Q (.ref r) (upd H r (.tup [.int u, .int v])))
theorem ok_number {f CW CB a_check_world a_inverse_ a_lowest_ : Addr} {fd fd_check_world fd_inverse_ fd_lowest_ : FuncData} (F : FunA K "number" "number" s_number f fd) (T : ErrC K mg "BadNumber" CB)
    (G_check_world : FnOk P w K mg base (L2N.CX P w) 2 a_check_world fd_check_world ["world"] (spCheckWorld K CW)) (g_check_world : mg "check_world" = some (.ref a_check_world)) (k_check_world : PySem.W.keepIn K (.ref a_check_world) = true) (b_check_world : Binds K fd_check_world ["world"] [])
    (G_inverse_ : FnOk P w K mg base CX0 1 a_inverse_ fd_inverse_ ["p", "b"] spInverse) (g_inverse_ : mg "_inverse" = some (.ref a_inverse_)) (k_inverse_ : PySem.W.keepIn K (.ref a_inverse_) = true) (b_inverse_ : Binds K fd_inverse_ ["p", "b"] [])
    (G_lowest_ : FnOk P w K mg base CX0 1 a_lowest_ fd_lowest_ ["a", "b"] spLowest) (g_lowest_ : mg "_lowest" = some (.ref a_lowest_)) (k_lowest_ : PySem.W.keepIn K (.ref a_lowest_) = true) (b_lowest_ : Binds K fd_lowest_ ["a", "b"] []) :
    FnOk P w K mg base (L2N.CX P w) 3 f fd ["world", "a", "b"] (spNumber K CW CB) := by
  obtain ⟨gc_BadNumber, x_BadNumber, kc_BadNumber, bc_BadNumber, tc_BadNumber⟩ := T
  refine F.okXN sc_number (fun vs H Q E h => ?_) (fun cdv A outer s H vs Q E hr h => ?_)
  · obtain ⟨x, p, d, a, b, rfl, _⟩ := h
    rfl
  · obtain ⟨x, p, d, a, b, rfl, hS, hl, q1, q2, q3⟩ := h
    refine ⟨_, (pss_cons (ps_expr (pe_call G_check_world (hr.mono (by decide)) rfl g_check_world k_check_world b_check_world .nil (L2N.passes_call (L2N.takes_of rfl rfl rfl rfl) (fun _ _ _ _ h => h)) (pa_cons (pv 0) pa_nil)))
  (pss_cons (ps_asg (pv 0) (pg_tup rfl (pgs_cons (pg_name (i := 3) sc_number.nd rfl (.inl rfl)) (pgs_cons (pg_name (i := 4) sc_number.nd rfl (.inl rfl)) pgs_nil))))
  (pss_cons (ps_if (pw_or (pt_cmpR op_eq (pv 2) pe_int (nomark _)) (pw_or1 (pw_and (pt_cmpR op_gt (pv 3) pe_int (nomark _)) (pw_and1 (pt_cmpR op_eq (pe_op op_mod (pv 2) (pv 3)) pe_int (nomark _)))).pt)).pt (pss_one (L2N.ps_raise rfl (L2N.takes_of rfl rfl rfl rfl) (L2N.pmk_own PySem.F.excBase_ValueError x_BadNumber gc_BadNumber kc_BadNumber (raises_own bc_BadNumber tc_BadNumber) rfl))) pss_nil)
  (pss_cons (ps_if (pt_cmpR op_gt (pv 3) pe_int (nomark _)) (pss_one (ps_ret (pe_tup (pa_cons (pe_op op_mod (pe_op op_mul (pv 1) (pe_call G_inverse_ (hr.mono (by decide)) rfl g_inverse_ k_inverse_ b_inverse_ .nil pass0 (pa_cons (pv 3) (pa_cons (pv 2) pa_nil)))) (pv 3)) (pa_cons pe_int pa_nil))))) pss_nil)
  (pss_one (ps_ret (pe_call G_lowest_ (hr.mono (by decide)) rfl g_lowest_ k_lowest_ b_lowest_ .nil pass0 (pa_cons (pv 1) (pa_cons (pv 2) pa_nil)))))))))
    , ?_⟩
    refine ⟨_, rfl, x, p, d, rfl, hS, fun ew => ?_, q1⟩
    have r2 := q2 ew
    have r3 := q3 ew
    refine ⟨_, rfl, x, _, rfl, hS, rfl, _, _, rfl, _, _, rfl, rfl, ?_⟩
    by_cases hb0 : b = 0
    · refine ⟨_, rfl, rfl, _, rfl, ?_⟩
      rw [decide_eq_true (congrArg V.int hb0)]
      exact iteT (iteT (r2 (.inl hb0)))
    · refine ⟨_, rfl, rfl, _, rfl, ?_⟩
      rw [decide_eq_false (fun z => hb0 (V.int.inj z))]
      refine iteF ?_
      refine ⟨_, rfl, _, _, rfl, rfl, _, rfl, ?_⟩
      by_cases hp : 0 < p
      · have hpp := (isW_prime ew (by omega)).1
        have hp2 := prime_pos hpp
        rw [decide_eq_true hp]
        refine iteT ⟨_, rfl, _, rfl, b, p, rfl, rfl, hp, rfl, _, rfl, ?_⟩
        by_cases hm : b % p = 0
        · rw [decide_eq_true (congrArg V.int hm)]
          exact iteT (r2 (.inr ⟨hp, hm⟩))
        · rw [decide_eq_false (fun z => hm (V.int.inj z))]
          refine iteF ?_
          refine ⟨_, rfl, _, _, rfl, rfl, _, rfl, ?_⟩
          rw [decide_eq_true hp]
          refine iteT ?_
          refine ⟨_, rfl, _, rfl, _, rfl, p, b, rfl, hpp, hm, fun k k1 k2 ek => ?_⟩
          refine ⟨a, k, rfl, rfl, .inr ⟨by omega, by omega⟩, _, rfl, _, p, rfl, rfl, hp, (by show 2 ≤ sizeLine; decide), fun r nr => ?_⟩
          refine r3 (fun z => ?_) r _ 1 (.inl ⟨hp, rfl, Int.emod_nonneg _ (by omega), Int.emod_lt_of_pos _ hp, inv_solves hp ek (by omega)⟩) nr
          rcases z with z | z
          · exact hb0 z
          · exact hm z.2
      · rw [decide_eq_false hp]
        refine iteF (iteF ?_)
        refine ⟨_, rfl, _, _, rfl, rfl, _, rfl, ?_⟩
        rw [decide_eq_false hp]
        refine iteF ?_
        refine ⟨_, rfl, _, rfl, a, b, rfl, hb0, hl, fun r nr => ?_⟩
        refine r3 (fun z => ?_) r _ _ (.inr ⟨hp, rfl⟩) nr
        rcases z with z | z
        · exact hb0 z
        · exact hp z.1
end

section
variable {P : Program} {w : World} {K : PySem.W.Frag} {mg : Str → Option Value} {base : Heap}
/-! ### _check_two -/
def spCheckTwo (K : PySem.W.Frag) (CW CN : Addr) : Sp := fun vs H Q E => ∃ (x y z : Addr) (p d a b a' b' : Int), vs = [.ref x, .ref y, .ref z] ∧ SqT K H x [.int p, .int d] ∧ SqT K H y [.int a, .int b] ∧ SqT K H z [.int a', .int b'] ∧
  (isW p d = false → E (.ref CW) none H) ∧ (isW p d = true → (isN p a b = false ∨ isN p a' b' = false) → E (.ref CN) none H) ∧ (isW p d = true → isN p a b = true → isN p a' b' = true → Q .non H)
theorem ok_check_two {f CW CN a_check_number : Addr} {fd fd_check_number : FuncData} (F : Fun K "_check_two" "_check_two" s_check_two_ f fd)
    (G_check_number : FnOk P w K mg base (L2N.CX P w) 4 a_check_number fd_check_number ["world", "x"] (spCheckNumber K CW CN)) (g_check_number : mg "check_number" = some (.ref a_check_number)) (k_check_number : PySem.W.keepIn K (.ref a_check_number) = true) (b_check_number : Binds K fd_check_number ["world", "x"] []) :
    FnOk P w K mg base (L2N.CX P w) 5 f fd ["world", "x", "y"] (spCheckTwo K CW CN) := by
  refine F.okXN sc_check_two_ (fun vs H Q E h => ?_) (fun cdv A outer s H vs Q E hr h => ?_)
  · obtain ⟨x, y, z, p, d, a, b, a', b', rfl, _⟩ := h
    rfl
  · obtain ⟨x, y, z, p, d, a, b, a', b', rfl, hx, hy, hz, q1, q2, q3⟩ := h
    refine ⟨_, (pss_cons (ps_expr (pe_call G_check_number (hr.mono (by decide)) rfl g_check_number k_check_number b_check_number .nil (L2N.passes_call (L2N.takes_of rfl rfl rfl rfl) (fun _ _ _ _ h => h)) (pa_cons (pv 0) (pa_cons (pv 1) pa_nil))))
  (pss_one (ps_expr (pe_call G_check_number (hr.mono (by decide)) rfl g_check_number k_check_number b_check_number .nil (L2N.passes_call (L2N.takes_of rfl rfl rfl rfl) (fun _ _ _ _ h => h)) (pa_cons (pv 0) (pa_cons (pv 2) pa_nil)))))), ?_⟩
    refine ⟨_, rfl, _, rfl, x, y, p, d, a, b, rfl, hx, hy, fun ew en => ?_, fun ew en => q2 ew (.inl en), q1⟩
    exact ⟨_, rfl, _, rfl, x, z, p, d, a', b', rfl, hx, hz, fun ew en' => q3 ew en en', fun ew en' => q2 ew (.inr en'), q1⟩
end

def spOp (K : PySem.W.Frag) (CW CN CB : Addr) (fA fB : Int → Int → Int → Int → Int) : Sp := fun vs H Q E => ∃ (x y z : Addr) (p d a b a' b' : Int), vs = [.ref x, .ref y, .ref z] ∧ SqT K H x [.int p, .int d] ∧ SqT K H y [.int a, .int b] ∧ SqT K H z [.int a', .int b'] ∧
  (isW p d = false → E (.ref CW) none H) ∧ (isW p d = true → (isN p a b = false ∨ isN p a' b' = false) → E (.ref CN) none H) ∧
  (isW p d = true → isN p a b = true → isN p a' b' = true → (a.natAbs < 2 ^ 62 ∧ b.natAbs < 2 ^ 62 ∧ a'.natAbs < 2 ^ 62 ∧ b'.natAbs < 2 ^ 62 ∧ (fB a b a' b').natAbs < 1073741824) ∧
    (bad p (fB a b a' b') → E (.ref CB) none H) ∧ (¬ bad p (fB a b a' b') → ∀ r u v, IsNum p (fA a b a' b') (fB a b a' b') u v → H r = none → Q (.ref r) (upd H r (.tup [.int u, .int v]))))
def fPlusA : Int → Int → Int → Int → Int := fun a b a' b' => a * b' + a' * b
def fMinusA : Int → Int → Int → Int → Int := fun a b a' b' => a * b' - a' * b
def fTimesA : Int → Int → Int → Int → Int := fun a _ a' _ => a * a'
def fTimesB : Int → Int → Int → Int → Int := fun _ b _ b' => b * b'
def fOverA : Int → Int → Int → Int → Int := fun a _ _ b' => a * b'
def fOverB : Int → Int → Int → Int → Int := fun _ b a' _ => b * a'
theorem cm62 {a b : Int} (h : a.natAbs < 2 ^ 62) : CMul a b := .inl ⟨by omega, by omega⟩

section
variable {P : Program} {w : World} {K : PySem.W.Frag} {mg : Str → Option Value} {base : Heap}
/-! ### plus -/
theorem ok_plus {f CW CN CB a_check_two_ a_number : Addr} {fd fd_check_two_ fd_number : FuncData} (F : Fun K "plus" "plus" s_plus f fd)
    (G_check_two_ : FnOk P w K mg base (L2N.CX P w) 5 a_check_two_ fd_check_two_ ["world", "x", "y"] (spCheckTwo K CW CN)) (g_check_two_ : mg "_check_two" = some (.ref a_check_two_)) (k_check_two_ : PySem.W.keepIn K (.ref a_check_two_) = true) (b_check_two_ : Binds K fd_check_two_ ["world", "x", "y"] [])
    (G_number : FnOk P w K mg base (L2N.CX P w) 3 a_number fd_number ["world", "a", "b"] (spNumber K CW CB)) (g_number : mg "number" = some (.ref a_number)) (k_number : PySem.W.keepIn K (.ref a_number) = true) (b_number : Binds K fd_number ["world", "a", "b"] []) :
    FnOk P w K mg base (L2N.CX P w) 6 f fd ["world", "x", "y"] (spOp K CW CN CB fPlusA fTimesB) := by
  refine F.okXN sc_plus (fun vs H Q E h => ?_) (fun cdv A outer s H vs Q E hr h => ?_)
  · obtain ⟨x, y, z, p, d, a, b, a', b', rfl, _⟩ := h
    rfl
  · obtain ⟨x, y, z, p, d, a, b, a', b', rfl, hx, hy, hz, q1, q2, q3⟩ := h
    have ya : atI [V.int a, V.int b] 0 = some (.int a) := atI_nat (j := 0) rfl
    have yb : atI [V.int a, V.int b] 1 = some (.int b) := atI_nat (j := 1) rfl
    have za : atI [V.int a', V.int b'] 0 = some (.int a') := atI_nat (j := 0) rfl
    have zb : atI [V.int a', V.int b'] 1 = some (.int b') := atI_nat (j := 1) rfl
    refine ⟨_, (pss_cons (ps_expr (pe_call G_check_two_ (hr.mono (by decide)) rfl g_check_two_ k_check_two_ b_check_two_ .nil (L2N.passes_call (L2N.takes_of rfl rfl rfl rfl) (fun _ _ _ _ h => h)) (pa_cons (pv 0) (pa_cons (pv 1) (pa_cons (pv 2) pa_nil)))))
  (pss_one (ps_ret (pe_call G_number (hr.mono (by decide)) rfl g_number k_number b_number .nil (L2N.passes_call (L2N.takes_of rfl rfl rfl rfl) (fun _ _ _ _ h => h)) (pa_cons (pv 0) (pa_cons (pe_op op_add (pe_op op_mul (pe_ix ix_tup (pv 1) pe_int (fun _ _ => rfl)) (pe_ix ix_tup (pv 2) pe_int (fun _ _ => rfl))) (pe_op op_mul (pe_ix ix_tup (pv 2) pe_int (fun _ _ => rfl)) (pe_ix ix_tup (pv 1) pe_int (fun _ _ => rfl)))) (pa_cons (pe_op op_mul (pe_ix ix_tup (pv 1) pe_int (fun _ _ => rfl)) (pe_ix ix_tup (pv 2) pe_int (fun _ _ => rfl))) pa_nil))))))), ?_⟩
    refine ⟨_, rfl, _, rfl, _, rfl, x, y, z, p, d, a, b, a', b', rfl, hx, hy, hz, q1, q2, fun ew en en' => ?_⟩
    obtain ⟨⟨b1, b2, b3, b4, b5⟩, qb, qn⟩ := q3 ew en en'
    exact ⟨_, rfl, _, rfl, y, _, 0, .int a, rfl, rfl, hy, ya, _, rfl, z, _, 1, .int b', rfl, rfl, hz, zb, a, b', rfl, rfl, cm62 b1, _, rfl, z, _, 0, .int a', rfl, rfl, hz, za, _, rfl, y, _, 1, .int b, rfl, rfl, hy, yb, a', b, rfl, rfl, cm62 b3, _, _, rfl, rfl, _, rfl, y, _, 1, .int b, rfl, rfl, hy, yb, _, rfl, z, _, 1, .int b', rfl, rfl, hz, zb, b, b', rfl, rfl, cm62 b2, x, p, d, _, _, rfl, hx, b5, q1, fun _ => qb, fun _ => qn⟩
end

theorem low_self {u v : Int} (hv : 0 < v) : (low u v = (u, v)) ↔ gI u v = 1 := by
  have hg := gI_pos (a := u) (b := v) (by omega)
  unfold low
  rw [if_neg (by omega)]
  constructor
  · intro h
    have h2 := congrArg Prod.snd h
    have h3 : v / gI u v = v := h2
    by_cases c : gI u v = 1
    · exact c
    · have : v / gI u v < v := Int.ediv_lt_of_lt_mul (by omega) (by
        have : v * 2 ≤ v * gI u v := Int.mul_le_mul_of_nonneg_left (by omega) (by omega)
        omega)
      omega
  · intro h
    rw [h, Int.ediv_one, Int.ediv_one]

theorem low_isN {a b : Int} (hb : b ≠ 0) : isN 0 (low a b).1 (low a b).2 = true := by
  obtain ⟨h1, h2⟩ := low_q (u := (low a b).1) (v := (low a b).2) hb rfl
  have e : low (low a b).1 (low a b).2 = low a b := by
    rw [low_rat (show (low a b).2 ≠ 0 by omega), h1, ← low_rat hb]
  unfold isN
  rw [if_pos rfl, if_pos (by omega)]
  exact decide_eq_true ((low_self h2).mp e)

def fams : List Str := ["threads", "loose", "pairs", "lonepairs", "even", "parts"]

theorem sqL_same {K : PySem.W.Frag} {H H' : Hp} {a : Addr} {xs : List V} (e : Same H H') (h : SqL K H a xs) : SqL K H' a xs := by
  rcases h with (h | ⟨o, h⟩) | h
  · exact .inl (.inl (e _ _ h))
  · exact .inl (.inr ⟨o, e _ _ h⟩)
  · exact .inr h
theorem none_back {H H' : Hp} {a : Addr} (s : Same H H') (h : H' a = none) : H a = none := by
  cases e : H a with
  | none => rfl
  | some o =>
    rw [s _ _ e] at h
    exact nomatch h

/-- a tuple of these integers -/
def TP (H : Hp) (v : V) (z : List Int) : Prop := ∃ t, v = .ref t ∧ H t = some (.tup (z.map V.int))
theorem TP.same {H H' : Hp} {v : V} {z : List Int} (s : Same H H') (h : TP H v z) : TP H' v z := by
  obtain ⟨t, rfl, h⟩ := h
  exact ⟨t, rfl, s _ _ h⟩
def dT (z : List Int) : PyData := .tuple (z.map PyData.int)
theorem ints_dp {K : PySem.W.Frag} {H : Hp} : ∀ z : List Int, DpAll K H (z.map V.int) (z.map PyData.int)
  | [] => .nil
  | a :: r => .cons (.int a) (ints_dp r)
theorem TP.dp {K : PySem.W.Frag} {H : Hp} {v : V} {z : List Int} (h : TP H v z) : Dp K H v (dT z) := by
  obtain ⟨t, rfl, h⟩ := h
  exact .tup (.inl (.inl h)) (ints_dp z)
theorem tps_dp {K : PySem.W.Frag} {H : Hp} : ∀ {vs : List V} {zs : List (List Int)}, Paired (TP H) vs zs → DpAll K H vs (zs.map dT)
  | _, _, .nil => .nil
  | _, _, .cons a b => .cons a.dp (tps_dp b)
theorem paired_add {α β : Type} {F : α → β → Prop} {a : α} {b : β} (h : F a b) : ∀ {l : List α} {m : List β}, Paired F l m → Paired F (l ++ [a]) (m ++ [b])
  | _, _, .nil => .cons h .nil
  | _, _, .cons x y => .cons x (paired_add h y)
theorem dT_small {z : List Int} (h : ∀ k, (co z k).natAbs < 2 ^ 200) : SmL 1 (1923 * z.length + 3) (dT z) := by
  have e := smL_tuple (ds := z.map PyData.int) (n := 0) (k := 1921) fun D hD => by
    obtain ⟨a, ha, rfl⟩ := List.mem_map.mp hD
    obtain ⟨i, hi, rfl⟩ := List.mem_iff_getElem.mp ha
    have e1 := co_get hi
    rw [List.getElem?_eq_getElem hi] at e1
    rw [Option.some.inj e1]
    exact smL_int (h i)
  rw [List.length_map] at e
  exact e
theorem SmL.more {n k k' : Nat} {D : PyData} (h : SmL n k D) (hk : k ≤ k') : SmL n k' D := by
  obtain ⟨h1, h2, h3, h4⟩ := h
  exact ⟨h1, h2, h3, Nat.le_trans h4 hk⟩
theorem repT {α : Type} (x : α) : ∀ n : Nat, (List.replicate n [x]).flatten = List.replicate n x
  | 0 => rfl
  | n + 1 => by rw [List.replicate_succ, List.flatten_cons, repT x n, List.replicate_succ]; rfl
def rCatB (K : PySem.W.Frag) : R2 := fun x y H Q => ∃ a b xs ys, x = .ref a ∧ y = .ref b ∧ SqT K H a xs ∧ SqT K H b ys ∧ xs.length + ys.length ≤ sizeLine ∧ ∀ p H', Same H H' → SqT K H' p (xs ++ ys) → Q (.ref p) H'
theorem op_catB {X : Cx} : OpR X (binaryOp .Add) (rCatB X.K) := by
  intro pins s σ H x y v u Q I rx ry h
  obtain ⟨a, b, xs, ys, rfl, rfl, ha, hb, hz, q⟩ := h
  refine op_catA pins s σ H _ _ v u Q I rx ry ⟨a, b, xs, ys, rfl, rfl, ha, hb, hz, fun e => ?_, fun _ e => ?_, fun _ _ p np => ?_⟩
  · exact q b H (Same.refl _) (by rw [e, List.nil_append]; exact hb)
  · exact q a H (Same.refl _) (by rw [e, List.append_nil]; exact ha)
  · exact q p _ (same_upd np) (.inl (.inl upd_same))
theorem sqT_butL {K : PySem.W.Frag} {H H' : Hp} {r a : Addr} {xs ys : List V} (hr : H r = some (.lst ys)) (e : SameBut r H H') (h : SqT K H a xs) : SqT K H' a xs := by
  rcases h with (h | ⟨o, h⟩) | h
  · exact .inl (.inl (e _ _ (ne_of h hr (fun z => nomatch z)) h))
  · exact .inl (.inr ⟨o, e _ _ (ne_of h hr (fun z => nomatch z)) h⟩)
  · exact .inr h
theorem eqvAll_ints : ∀ x y : List Int, PyData.eqvAll (x.map PyData.int) (y.map PyData.int) = decide (x = y)
  | [], [] => by simp [PyData.eqvAll]
  | [], _ :: _ => by simp [PyData.eqvAll]
  | _ :: _, [] => by simp [PyData.eqvAll]
  | a :: x, b :: y => by
    rw [List.map_cons, List.map_cons]
    simp only [PyData.eqvAll, PyData.eqv, eqvAll_ints x y]
    by_cases h1 : a = b
    · by_cases h2 : x = y
      · simp [h1, h2]
      · simp [h2]
    · simp [h1]
theorem eqv_dT (x y : List Int) : PyData.eqv (dT x) (dT y) = decide (x = y) := by
  unfold dT
  simp only [PyData.eqv, eqvAll_ints]
theorem lay_ints : ∀ x : List Int, PyData.canLayAll0 (x.map PyData.int) = true ∧ PyData.depthAll (x.map PyData.int) = 0
  | [] => ⟨by simp [PyData.canLayAll0], by simp [PyData.depthAll]⟩
  | a :: x => by
    obtain ⟨h1, h2⟩ := lay_ints x
    exact ⟨by simp [PyData.canLayAll0, PyData.canLay0, h1], by simp [PyData.depthAll, PyData.depth, h2]⟩
theorem dT_shaped (x : List Int) : SeqAt.shaped (dT x) = true := by
  obtain ⟨h1, h2⟩ := lay_ints x
  show (PyData.canLay0 (dT x) && decide (PyData.depth (dT x) ≤ 64)) = true
  unfold dT
  rw [show PyData.canLay0 (.tuple (x.map PyData.int)) = true by simp [PyData.canLay0, h1], show PyData.depth (.tuple (x.map PyData.int)) = 1 by simp [PyData.depth, h2]]
  rfl
theorem eqD_TP {K : PySem.W.Frag} {H : Hp} {u v : V} {x y : List Int} {Q : VK} (hx : TP H u x) (hy : TP H v y) (q : Q (.bl (decide (x = y))) H) : rEqD K u v H Q :=
  ⟨_, _, hx.dp, hy.dp, dT_shaped x, dT_shaped y, by rw [eqv_dT]; exact q⟩
theorem neD_TP {K : PySem.W.Frag} {H : Hp} {u v : V} {x y : List Int} {Q : VK} (hx : TP H u x) (hy : TP H v y) (q : Q (.bl (!decide (x = y))) H) : rNeD K u v H Q :=
  ⟨_, _, hx.dp, hy.dp, dT_shaped x, dT_shaped y, by rw [eqv_dT]; exact q⟩
def rRepB (K : PySem.W.Frag) : R2 := fun x y H Q => ∃ l k xs, x = .ref l ∧ y = .int k ∧ SqT K H l xs ∧ xs ≠ [] ∧ 0 ≤ k ∧ k ≤ 1000 ∧ xs.length ≤ 1000 ∧ ∀ p H', Same H H' → SqT K H' p (List.replicate k.toNat xs).flatten → Q (.ref p) H'
theorem op_repB {X : Cx} : OpR X (binaryOp .Mult) (rRepB X.K) := by
  intro pins s σ H x y v u Q I rx ry h
  obtain ⟨l, k, xs, rfl, rfl, hT, hne, h1, h2, hz, q⟩ := h
  refine op_repA pins s σ H _ _ v u Q I rx ry ⟨l, k, xs, rfl, rfl, hT, hne, h1, h2, hz, fun e => ?_, fun _ p np => ?_⟩
  · refine q l H (Same.refl _) ?_
    rw [e, show (1 : Int).toNat = 1 from rfl]
    simpa using hT
  · exact q p _ (same_upd np) (.inl (.inl upd_same))
theorem ix_tupK {X : Cx} {K : PySem.W.Frag} (hK : X.K = K) : IxR X (rIxT K) := by
  subst hK
  exact ix_tup
theorem ix_listK {X : Cx} {K : PySem.W.Frag} (hK : X.K = K) : IxR X (rIxL K) := by
  subst hK
  exact ix_list
theorem ite_same {x : V} {A B : Prop} (h : B) : if (!decide (x = x)) = true then A else B := by
  rw [decide_eq_true rfl]
  exact iteF h
theorem pi_tupK {X : Cx} {K : PySem.W.Frag} {tg e : Expr} {te : TE} (hK : X.K = K) (he : PE X e te) : PI X tg e (iTup K te) := by
  subst hK
  exact pi_tup he
theorem call_list_ofK {X : Cx} {K : PySem.W.Frag} (hK : X.K = K) : CallR X (.type "list") (fun xs H Q => ∃ p ys, xs = [.ref p] ∧ (SqL K H p ys ∨ SqT K H p ys) ∧ ∀ l, H l = none → Q (.ref l) (upd H l (.lst ys))) := by
  subst hK
  exact call_list_of
theorem op_eqDK {X : Cx} {K : PySem.W.Frag} (hK : X.K = K) (hu : X.A.units + 64 < cLine) : OpR X (compareOp .Eq) (rEqD K) := by
  subst hK
  exact op_eqD hu

/-! ### marks and blocks -/
def seenL : List Int → List Int → List Int
  | acc, [] => acc
  | acc, x :: l => seenL (if x ∈ acc then acc else acc ++ [x]) l
def ixs (N : Nat) : List Int := (List.range N).map fun (i : Nat) => (i : Int)
def posOf (marks : List Int) (v : Int) : List Int := ((List.range marks.length).filter fun i => decide (co marks i = v)).map fun (i : Nat) => (i : Int)
def blocksOf (marks : List Int) : List (List Int) := (seenL [] marks).map (posOf marks)
theorem seenL_snoc : ∀ (l acc : List Int) (x : Int), seenL acc (l ++ [x]) = if x ∈ seenL acc l then seenL acc l else seenL acc l ++ [x]
  | [], acc, x => rfl
  | y :: l, acc, x => by
    show seenL _ (l ++ [x]) = _
    rw [seenL_snoc l _ x]
    rfl
theorem seenL_sub : ∀ (l acc : List Int) (x : Int), x ∈ acc → x ∈ seenL acc l
  | [], _, _, h => h
  | y :: l, acc, x, h => by
    show x ∈ seenL _ l
    refine seenL_sub l _ x ?_
    split
    · exact h
    · exact List.mem_append_left _ h
theorem seenL_mem : ∀ (l acc : List Int) (x : Int), x ∈ seenL acc l ↔ x ∈ acc ∨ x ∈ l
  | [], acc, x => by
    show x ∈ acc ↔ _
    simp
  | y :: l, acc, x => by
    show x ∈ seenL _ l ↔ _
    rw [seenL_mem l _ x]
    by_cases c : y ∈ acc
    · rw [if_pos c, List.mem_cons]
      constructor
      · rintro (h | h)
        · exact .inl h
        · exact .inr (.inr h)
      · rintro (h | rfl | h)
        · exact .inl h
        · exact .inl c
        · exact .inr h
    · rw [if_neg c, List.mem_cons, List.mem_append, List.mem_singleton, or_assoc]
theorem seenL_nodup : ∀ (l acc : List Int), acc.Nodup → (seenL acc l).Nodup
  | [], _, h => h
  | y :: l, acc, h => by
    refine seenL_nodup l _ ?_
    split
    · exact h
    · rename_i c
      refine List.nodup_append.mpr ⟨h, by simp, fun a ha b hb => ?_⟩
      rw [List.mem_singleton.mp hb]
      exact fun z => c (z ▸ ha)
theorem seenL_len : ∀ (l acc : List Int), (seenL acc l).length ≤ acc.length + l.length
  | [], _ => Nat.le_refl _
  | y :: l, acc => by
    have h := seenL_len l (if y ∈ acc then acc else acc ++ [y])
    show (seenL _ l).length ≤ _
    rw [List.length_cons]
    split at h
    · rename_i c
      rw [if_pos c]
      omega
    · rename_i c
      rw [if_neg c]
      rw [List.length_append] at h
      have : [y].length = 1 := rfl
      omega
/-- equal marks alone count -/
theorem seenL_map {g : Int → Int} : ∀ (l acc : List Int), (∀ x ∈ acc ++ l, ∀ y ∈ acc ++ l, g x = g y → x = y) → seenL (acc.map g) (l.map g) = (seenL acc l).map g
  | [], _, _ => rfl
  | y :: l, acc, h => by
    show seenL (if g y ∈ acc.map g then acc.map g else acc.map g ++ [g y]) (l.map g) = (seenL (if y ∈ acc then acc else acc ++ [y]) l).map g
    by_cases c : y ∈ acc
    · rw [if_pos c, if_pos (List.mem_map_of_mem c)]
      refine seenL_map l acc fun a ha b hb => h a ?_ b ?_
      · rcases List.mem_append.mp ha with z | z
        · exact List.mem_append_left _ z
        · exact List.mem_append_right _ (List.mem_cons_of_mem _ z)
      · rcases List.mem_append.mp hb with z | z
        · exact List.mem_append_left _ z
        · exact List.mem_append_right _ (List.mem_cons_of_mem _ z)
    · have c2 : g y ∉ acc.map g := fun z => by
        obtain ⟨a, ha, e⟩ := List.mem_map.mp z
        exact c (h a (List.mem_append_left _ ha) y (List.mem_append_right _ List.mem_cons_self) e ▸ ha)
      rw [if_neg c, if_neg c2, show acc.map g ++ [g y] = (acc ++ [y]).map g by rw [List.map_append]; rfl]
      refine seenL_map l (acc ++ [y]) fun a ha b hb => h a ?_ b ?_
      · rwa [List.append_assoc] at ha
      · rwa [List.append_assoc] at hb
theorem co_mapI (g : Int → Int) (l : List Int) {i : Nat} (h : i < l.length) : co (l.map g) i = g (co l i) := by
  have e := co_get (l := l.map g) (k := i) (by rw [List.length_map]; exact h)
  rw [List.getElem?_map, co_get h] at e
  exact (Option.some.inj e).symm
theorem posOf_map {g : Int → Int} {marks : List Int} {v : Int} (hv : v ∈ marks) (h : ∀ x ∈ marks, ∀ y ∈ marks, g x = g y → x = y) : posOf (marks.map g) (g v) = posOf marks v := by
  unfold posOf
  rw [List.length_map]
  congr 1
  refine List.filter_congr fun i hi => ?_
  have hi' := List.mem_range.mp hi
  rw [co_mapI g marks hi']
  by_cases c : co marks i = v
  · rw [decide_eq_true c, decide_eq_true (congrArg g c)]
  · rw [decide_eq_false c, decide_eq_false (fun z => c (h _ (co_mem hi') _ hv z))]
theorem blocksOf_map {g : Int → Int} {marks : List Int} (h : ∀ x ∈ marks, ∀ y ∈ marks, g x = g y → x = y) : blocksOf (marks.map g) = blocksOf marks := by
  unfold blocksOf
  rw [show ([] : List Int) = ([] : List Int).map g from rfl, seenL_map marks [] (by rw [List.nil_append]; exact h), List.map_map]
  refine List.map_congr_left fun v hv => ?_
  rcases (seenL_mem marks [] v).mp hv with z | z
  · exact nomatch z
  · exact posOf_map z h
/-! a partition -/
theorem perm_split (p : Nat → Bool) : ∀ l : List Nat, (l.filter p ++ l.filter fun x => !p x).Perm l := fun l => List.filter_append_perm p l
theorem part_perm {f : Nat → Int} : ∀ (vs : List Int) (l : List Nat), vs.Nodup → (∀ x ∈ l, f x ∈ vs) → ((vs.map fun v => l.filter fun i => decide (f i = v)).flatten).Perm l
  | [], l, _, h => by
    have : l = [] := List.eq_nil_iff_forall_not_mem.mpr fun x hx => nomatch h x hx
    rw [this]
    exact .refl _
  | v :: vs, l, nd, h => by
    rw [List.map_cons, List.flatten_cons]
    obtain ⟨nv, nd'⟩ := List.nodup_cons.mp nd
    have ih := part_perm (f := f) vs (l.filter fun i => !decide (f i = v)) nd' fun x hx => by
      obtain ⟨h1, h2⟩ := List.mem_filter.mp hx
      rcases List.mem_cons.mp (h x h1) with e | e
      · rw [decide_eq_true e] at h2
        exact nomatch h2
      · exact e
    have e : (vs.map fun v' => (l.filter fun i => !decide (f i = v)).filter fun i => decide (f i = v')) = vs.map fun v' => l.filter fun i => decide (f i = v') := by
      refine List.map_congr_left fun v' hv' => ?_
      rw [List.filter_filter]
      refine List.filter_congr fun i _ => ?_
      by_cases c : f i = v'
      · have c2 : f i ≠ v := fun z => nv (by rw [← z, c]; exact hv')
        rw [decide_eq_true c, decide_eq_false c2]
        rfl
      · rw [decide_eq_false c]
        rfl
    rw [e] at ih
    exact (List.Perm.append_left _ ih).trans (perm_split _ l)
theorem mem_posOf {marks : List Int} {v x : Int} : x ∈ posOf marks v ↔ ∃ i : Nat, x = (i : Int) ∧ i < marks.length ∧ co marks i = v := by
  unfold posOf
  rw [List.mem_map]
  constructor
  · rintro ⟨i, hi, rfl⟩
    obtain ⟨h1, h2⟩ := List.mem_filter.mp hi
    exact ⟨i, rfl, List.mem_range.mp h1, of_decide_eq_true h2⟩
  · rintro ⟨i, rfl, h1, h2⟩
    exact ⟨i, List.mem_filter.mpr ⟨List.mem_range.mpr h1, decide_eq_true h2⟩, rfl⟩
theorem mem_get {l : List Int} {v : Int} (h : v ∈ l) : ∃ i, i < l.length ∧ co l i = v := by
  obtain ⟨i, hi, e⟩ := List.mem_iff_getElem.mp h
  refine ⟨i, hi, ?_⟩
  have e1 := co_get hi
  rw [List.getElem?_eq_getElem hi] at e1
  rw [← Option.some.inj e1]
  exact e
theorem blocks_perm (marks : List Int) : (blocksOf marks).flatten.Perm (ixs marks.length) := by
  unfold blocksOf ixs
  have h := part_perm (f := co marks) (seenL [] marks) (List.range marks.length) (seenL_nodup marks [] List.nodup_nil) fun x hx => (seenL_mem marks [] _).mpr (.inr (co_mem (List.mem_range.mp hx)))
  have e : ((seenL [] marks).map (posOf marks)).flatten = (((seenL [] marks).map fun v => (List.range marks.length).filter fun i => decide (co marks i = v)).flatten).map fun (i : Nat) => (i : Int) := by
    rw [List.map_flatten, List.map_map]
    rfl
  rw [e]
  exact h.map _
theorem blocks_ne {marks : List Int} : ∀ b ∈ blocksOf marks, b ≠ [] := fun b hb => by
  obtain ⟨v, hv, rfl⟩ := List.mem_map.mp hb
  rcases (seenL_mem marks [] v).mp hv with z | z
  · exact nomatch z
  · obtain ⟨i, hi, e⟩ := mem_get z
    intro c
    have : (i : Int) ∈ posOf marks v := mem_posOf.mpr ⟨i, rfl, hi, e⟩
    rw [c] at this
    exact nomatch this
theorem range_lt (n : Nat) : (List.range n).Pairwise (· < ·) := List.pairwise_lt_range
theorem posOf_asc (marks : List Int) (v : Int) : (posOf marks v).Pairwise (· < ·) := by
  unfold posOf
  exact List.pairwise_map.mpr ((List.Pairwise.filter _ (range_lt _)).imp fun {a b} h => by omega)
theorem head_ix (p : Nat → Bool) {i : Nat} (h0 : ∀ j, j < i → p j = false) (h1 : p i = true) : ∀ N, (N ≤ i → (List.range N).filter p = []) ∧ (i < N → ((List.range N).filter p)[0]? = some i)
  | 0 => ⟨fun _ => rfl, fun h => absurd h (Nat.not_lt_zero _)⟩
  | N + 1 => by
    obtain ⟨a, b⟩ := head_ix p h0 h1 N
    rw [List.range_succ, List.filter_append]
    refine ⟨fun h => ?_, fun h => ?_⟩
    · rw [a (by omega), List.filter_cons, h0 N (by omega)]
      rfl
    · by_cases c : N = i
      · rw [a (by omega), List.filter_cons, c, h1]
        rfl
      · have h2 := b (by omega)
        rw [List.getElem?_append_left (List.getElem?_eq_some_iff.mp h2).1]
        exact h2
theorem posOf_head {marks : List Int} {i : Nat} (hi : i < marks.length) (h : co marks i ∉ marks.take i) : co (posOf marks (co marks i)) 0 = (i : Int) := by
  have h2 := (head_ix (fun j => decide (co marks j = co marks i)) (i := i) (fun j hj => decide_eq_false fun z => h ?_) (decide_eq_true rfl) marks.length).2 hi
  · unfold posOf co
    rw [List.getD_eq_getElem?_getD, List.getElem?_map]
    show ((((List.range marks.length).filter fun j => decide (co marks j = co marks i))[0]?).map fun (i : Nat) => (i : Int)).getD 0 = _
    rw [h2]
    rfl
  · rw [← z]
    have e : (marks.take i)[j]? = some (co marks j) := by rw [List.getElem?_take_of_lt hj, co_get (by omega)]
    exact List.mem_of_getElem? e
theorem take_snoc {l : List Int} {i : Nat} (h : i < l.length) : l.take (i + 1) = l.take i ++ [co l i] := by
  rw [List.take_succ, co_get h]
  rfl
theorem heads_run (marks : List Int) : ∀ i, i ≤ marks.length → ((seenL [] (marks.take i)).map fun v => co (posOf marks v) 0).Pairwise (· < ·) ∧ ∀ v ∈ seenL [] (marks.take i), co (posOf marks v) 0 < (i : Int)
  | 0, _ => ⟨.nil, fun v hv => nomatch hv⟩
  | i + 1, h => by
    obtain ⟨h1, h2⟩ := heads_run marks i (by omega)
    rw [take_snoc (by omega), seenL_snoc]
    by_cases c : co marks i ∈ seenL [] (marks.take i)
    · rw [if_pos c]
      exact ⟨h1, fun v hv => by have := h2 v hv; omega⟩
    · rw [if_neg c]
      have hd := posOf_head (marks := marks) (i := i) (by omega) fun z => c ((seenL_mem _ _ _).mpr (.inr z))
      refine ⟨?_, fun v hv => ?_⟩
      · rw [List.map_append]
        refine List.pairwise_append.mpr ⟨h1, List.pairwise_singleton _ _, fun a ha b hb => ?_⟩
        obtain ⟨v, hv, rfl⟩ := List.mem_map.mp ha
        obtain ⟨u, hu, rfl⟩ := List.mem_map.mp hb
        rw [List.mem_singleton.mp hu, hd]
        exact h2 v hv
      · rcases List.mem_append.mp hv with hv | hv
        · have := h2 v hv
          omega
        · rw [List.mem_singleton.mp hv, hd]
          omega
theorem blocks_heads (marks : List Int) : ((blocksOf marks).map fun b => co b 0).Pairwise (· < ·) := by
  have h := (heads_run marks marks.length (Nat.le_refl _)).1
  rw [List.take_length] at h
  unfold blocksOf
  rw [List.map_map]
  exact h
/-! labels -/
def labFrom : List (List Int) → Nat → List Int → List Int
  | [], _, ms => ms
  | b :: bs, k, ms => labFrom bs (k + 1) (b.foldl (fun ms p => ms.set p.toNat (k : Int)) ms)
def labL (bs : List (List Int)) (N : Nat) : List Int := labFrom bs 0 (List.replicate N 0)
theorem fold_len (k : Int) : ∀ (b ms : List Int), (b.foldl (fun ms p => ms.set p.toNat k) ms).length = ms.length
  | [], _ => rfl
  | p :: b, ms => by
    show (b.foldl _ (ms.set p.toNat k)).length = _
    rw [fold_len k b, List.length_set]
theorem fold_co (k : Int) {i : Nat} : ∀ (b ms : List Int), (∀ p ∈ b, 0 ≤ p ∧ p < ms.length) → co (b.foldl (fun ms p => ms.set p.toNat k) ms) i = if (i : Int) ∈ b then k else co ms i
  | [], _, _ => rfl
  | p :: b, ms, h => by
    show co (b.foldl _ (ms.set p.toNat k)) i = _
    obtain ⟨h1, h2⟩ := h p List.mem_cons_self
    rw [fold_co k b (ms.set p.toNat k) fun q hq => by rw [List.length_set]; exact h q (List.mem_cons_of_mem _ hq), co_set i (by omega)]
    by_cases c : (i : Int) ∈ b
    · rw [if_pos c, if_pos (List.mem_cons_of_mem _ c)]
    · rw [if_neg c]
      by_cases c2 : i = p.toNat
      · rw [if_pos c2, if_pos (List.mem_cons.mpr (.inl (by omega)))]
      · rw [if_neg c2, if_neg]
        intro z
        rcases List.mem_cons.mp z with z | z
        · omega
        · exact c z
theorem labFrom_len : ∀ (bs : List (List Int)) (k : Nat) (ms : List Int), (labFrom bs k ms).length = ms.length
  | [], _, _ => rfl
  | b :: bs, k, ms => by
    show (labFrom bs (k + 1) _).length = _
    rw [labFrom_len bs, fold_len]
theorem labL_len (bs : List (List Int)) (N : Nat) : (labL bs N).length = N := by
  unfold labL
  rw [labFrom_len, List.length_replicate]
theorem labFrom_co {marks : List Int} {i : Nat} (hi : i < marks.length) : ∀ (vs : List Int) (k : Nat) (ms : List Int), vs.Nodup → ms.length = marks.length → co (labFrom (vs.map (posOf marks)) k ms) i = if co marks i ∈ vs then ((k + vs.idxOf (co marks i) : Nat) : Int) else co ms i
  | [], _, _, _, _ => rfl
  | v :: vs, k, ms, nd, hl => by
    obtain ⟨nv, nd'⟩ := List.nodup_cons.mp nd
    show co (labFrom (vs.map (posOf marks)) (k + 1) _) i = _
    rw [labFrom_co hi vs (k + 1) _ nd' (by rw [fold_len, hl]), fold_co (k : Int) (posOf marks v) ms fun p hp => by
      obtain ⟨j, rfl, hj, _⟩ := mem_posOf.mp hp
      omega]
    have e : ((i : Int) ∈ posOf marks v) ↔ co marks i = v := by
      rw [mem_posOf]
      exact ⟨fun ⟨j, e, _, h⟩ => by rw [show i = j by omega]; exact h, fun h => ⟨i, rfl, hi, h⟩⟩
    by_cases c : co marks i = v
    · rw [if_neg (by rw [c]; exact nv), if_pos (e.mpr c), if_pos (List.mem_cons.mpr (.inl c)), c, List.idxOf_cons_self]
      rfl
    · rw [if_neg (fun z => c (e.mp z))]
      by_cases c2 : co marks i ∈ vs
      · rw [if_pos c2, if_pos (List.mem_cons_of_mem _ c2), List.idxOf_cons, cond_eq_ite, if_neg (by simpa using Ne.symm c)]
        congr 1
        omega
      · rw [if_neg c2, if_neg fun z => (List.mem_cons.mp z).elim c c2]
theorem labL_marks (marks : List Int) : labL (blocksOf marks) marks.length = marks.map fun v => (((seenL [] marks).idxOf v : Nat) : Int) := by
  refine List.ext_getElem? fun i => ?_
  have l1 := labL_len (blocksOf marks) marks.length
  rcases Nat.lt_or_ge i marks.length with c | c
  · rw [co_get (by omega), List.getElem?_map, co_get c]
    unfold labL blocksOf
    rw [labFrom_co c (seenL [] marks) 0 _ (seenL_nodup marks [] List.nodup_nil) List.length_replicate, if_pos ((seenL_mem marks [] _).mpr (.inr (co_mem c))), Nat.zero_add]
    rfl
  · rw [List.getElem?_eq_none (by omega), List.getElem?_eq_none (by rw [List.length_map]; exact c)]
theorem idx_inj {l : List Int} {x y : Int} (hx : x ∈ l) (hy : y ∈ l) (h : (((l.idxOf x : Nat) : Int)) = ((l.idxOf y : Nat) : Int)) : x = y := by
  have h' : l.idxOf x = l.idxOf y := by omega
  have e1 := List.getElem_idxOf (List.idxOf_lt_length_of_mem hx)
  have e2 := List.getElem_idxOf (List.idxOf_lt_length_of_mem hy)
  rw [← e1, ← e2]
  congr 1
theorem blocks_lab (marks : List Int) : blocksOf (labL (blocksOf marks) marks.length) = blocksOf marks := by
  rw [labL_marks]
  exact blocksOf_map fun x hx y hy h => idx_inj ((seenL_mem marks [] x).mpr (.inr hx)) ((seenL_mem marks [] y).mpr (.inr hy)) h

def siz (n m : Int) : Bool := decide (0 ≤ n ∧ n ≤ 8 ∧ 0 ≤ m ∧ m ≤ 8 ∧ n + m ≤ 12)
theorem cr_sortedITK {X : Cx} {K : PySem.W.Frag} (hK : X.K = K) : CallR X (.builtin "sorted") (rSortedIT K) := by
  subst hK
  exact cr_sortedIT
theorem outer_it {J : It} {n : Nat} {G : Hp → Prop} {Y : Nat → Hp → V → Hp → Prop} (w : Walk J n G Y) {B : V → Hp → (Hp → Prop) → Prop} {H0 : Hp} {Qd : Hp → Prop} (Pv : Nat → Hp → Prop) (h0 : Pv 0 H0) (hG : ∀ i H, i ≤ n → Pv i H → G H)
    (hs : ∀ i x H H', i < n → Pv i H → Y i H x H' → B x H' (Pv (i + 1))) (hd : ∀ H, Pv n H → Qd H) :
    ∃ W : Nat → Nat → Hp → Prop, (∃ m, W 0 m H0) ∧ ∀ i m H, W i m H → (J.stop i H ∧ Qd H) ∨ (J.go i H ∧ ∃ Nx : Hp → Prop, (∀ H', Nx H' → ∃ m', m' < m ∧ W (i + 1) m' H') ∧ ∀ x H', J.yld i H x H' → B x H' Nx) := by
  refine ⟨fun i m H => m = n - i ∧ i ≤ n ∧ Pv i H, ⟨n, by simp, Nat.zero_le _, h0⟩, ?_⟩
  rintro i m H ⟨rfl, hi, p⟩
  have q := hG i H hi p
  by_cases hlt : i < n
  · refine .inr ⟨w.goes i H hlt q, Pv (i + 1), fun H' p' => ⟨n - (i + 1), by omega, rfl, hlt, p'⟩, fun x H' y => hs i x H H' hlt p (w.yields i H x H' hlt q y)⟩
  · have e : i = n := by omega
    subst e
    exact .inl ⟨w.stops H q, hd H p⟩
/-- a tuple of tuples of integers; a diagram -/
def TT (H : Hp) (v : V) (bs : List (List Int)) : Prop := ∃ tb ts, v = .ref tb ∧ H tb = some (.tup ts) ∧ Paired (TP H) ts bs
def DGv (H : Hp) (v : V) (n m : Int) (bs : List (List Int)) : Prop := ∃ t vb, v = .ref t ∧ H t = some (.tup [.int n, .int m, vb]) ∧ TT H vb bs
theorem TT.same {H H' : Hp} {v : V} {bs : List (List Int)} (s : Same H H') (h : TT H v bs) : TT H' v bs := by
  obtain ⟨tb, ts, rfl, h, pr⟩ := h
  exact ⟨tb, ts, rfl, s _ _ h, Paired.mapP pr fun _ _ h => h.same s⟩
theorem DGv.same {H H' : Hp} {v : V} {n m : Int} {bs : List (List Int)} (s : Same H H') (h : DGv H v n m bs) : DGv H' v n m bs := by
  obtain ⟨t, vb, rfl, h, tt⟩ := h
  exact ⟨t, vb, rfl, s _ _ h, tt.same s⟩
def dTT (bs : List (List Int)) : PyData := .tuple (bs.map dT)
def dDG (n m : Int) (bs : List (List Int)) : PyData := .tuple [.int n, .int m, dTT bs]
theorem TT.dp {K : PySem.W.Frag} {H : Hp} {v : V} {bs : List (List Int)} (h : TT H v bs) : Dp K H v (dTT bs) := by
  obtain ⟨tb, ts, rfl, h, pr⟩ := h
  exact .tup (.inl (.inl h)) (tps_dp pr)
theorem DGv.dp {K : PySem.W.Frag} {H : Hp} {v : V} {n m : Int} {bs : List (List Int)} (h : DGv H v n m bs) : Dp K H v (dDG n m bs) := by
  obtain ⟨t, vb, rfl, h, tt⟩ := h
  exact .tup (.inl (.inl h)) (.cons (.int n) (.cons (.int m) (.cons tt.dp .nil)))
theorem lay_dTs : ∀ bs : List (List Int), PyData.canLayAll0 (bs.map dT) = true ∧ PyData.depthAll (bs.map dT) ≤ 1
  | [] => ⟨by simp [PyData.canLayAll0], by simp [PyData.depthAll]⟩
  | b :: bs => by
    obtain ⟨h1, h2⟩ := lay_dTs bs
    obtain ⟨h3, h4⟩ := lay_ints b
    have e1 : PyData.canLay0 (dT b) = true := by simp [dT, PyData.canLay0, h3]
    have e2 : PyData.depth (dT b) = 1 := by simp [dT, PyData.depth, h4]
    refine ⟨by simp [PyData.canLayAll0, e1, h1], ?_⟩
    simp only [List.map_cons, PyData.depthAll, e2]
    omega
theorem dTT_lay (bs : List (List Int)) : PyData.canLay0 (dTT bs) = true ∧ PyData.depth (dTT bs) ≤ 2 := by
  obtain ⟨h1, h2⟩ := lay_dTs bs
  exact ⟨by simp [dTT, PyData.canLay0, h1], by simp only [dTT, PyData.depth]; omega⟩
theorem dDG_lay (n m : Int) (bs : List (List Int)) : PyData.canLay0 (dDG n m bs) = true ∧ PyData.depth (dDG n m bs) ≤ 3 := by
  obtain ⟨h1, h2⟩ := dTT_lay bs
  exact ⟨by simp [dDG, PyData.canLay0, PyData.canLayAll0, h1], by simp only [dDG, PyData.depth, PyData.depthAll]; omega⟩
theorem dTT_shaped (bs : List (List Int)) : SeqAt.shaped (dTT bs) = true := by
  obtain ⟨h1, h2⟩ := dTT_lay bs
  show (PyData.canLay0 (dTT bs) && decide (PyData.depth (dTT bs) ≤ 64)) = true
  rw [h1, decide_eq_true (by omega)]
  rfl
theorem dDG_shaped (n m : Int) (bs : List (List Int)) : SeqAt.shaped (dDG n m bs) = true := by
  obtain ⟨h1, h2⟩ := dDG_lay n m bs
  show (PyData.canLay0 (dDG n m bs) && decide (PyData.depth (dDG n m bs) ≤ 64)) = true
  rw [h1, decide_eq_true (by omega)]
  rfl
/-- lists of integers -/
def dL (z : List Int) : PyData := .list (z.map PyData.int)
def LP (H : Hp) (v : V) (z : List Int) : Prop := ∃ t, v = .ref t ∧ H t = some (.lst (z.map V.int))
theorem LP.dp {K : PySem.W.Frag} {H : Hp} {v : V} {z : List Int} (h : LP H v z) : Dp K H v (dL z) := by
  obtain ⟨t, rfl, h⟩ := h
  exact .lst (.inl (.inl h)) (ints_dp z)
theorem LP.same {H H' : Hp} {v : V} {z : List Int} (s : Same H H') (h : LP H v z) : LP H' v z := by
  obtain ⟨t, rfl, h⟩ := h
  exact ⟨t, rfl, s _ _ h⟩
theorem dL_shaped (x : List Int) : SeqAt.shaped (dL x) = true := by
  obtain ⟨h1, h2⟩ := lay_ints x
  show (PyData.canLay0 (dL x) && decide (PyData.depth (dL x) ≤ 64)) = true
  unfold dL
  rw [show PyData.canLay0 (.list (x.map PyData.int)) = true by simp [PyData.canLay0, h1], show PyData.depth (.list (x.map PyData.int)) = 1 by simp [PyData.depth, h2]]
  rfl
theorem eqv_dL (x y : List Int) : PyData.eqv (dL x) (dL y) = decide (x = y) := by
  unfold dL
  simp only [PyData.eqv, eqvAll_ints]
theorem eqD_LP {K : PySem.W.Frag} {H : Hp} {u v : V} {x y : List Int} {Q : VK} (hx : LP H u x) (hy : LP H v y) (q : Q (.bl (decide (x = y))) H) : rEqD K u v H Q :=
  ⟨_, _, hx.dp, hy.dp, dL_shaped x, dL_shaped y, by rw [eqv_dL]; exact q⟩
theorem neD_LP {K : PySem.W.Frag} {H : Hp} {u v : V} {x y : List Int} {Q : VK} (hx : LP H u x) (hy : LP H v y) (q : Q (.bl (!decide (x = y))) H) : rNeD K u v H Q :=
  ⟨_, _, hx.dp, hy.dp, dL_shaped x, dL_shaped y, by rw [eqv_dL]; exact q⟩
theorem tt_get {H : Hp} {ts : List V} {bs : List (List Int)} (pr : Paired (TP H) ts bs) {i : Nat} {y : V} (h : ts[i]? = some y) : ∃ b, bs[i]? = some b ∧ TP H y b := by
  induction pr generalizing i with
  | nil => exact nomatch h
  | cons r t ih =>
    cases i with
    | zero =>
      obtain rfl := Option.some.inj h
      exact ⟨_, rfl, r⟩
    | succ i => exact ih h
theorem rgV_ixs {a : Int} (h : 0 ≤ a) : rgV 0 a = (ixs a.toNat).map V.int := by
  unfold rgV ixs
  rw [List.map_map, Int.sub_zero]
  refine List.map_congr_left fun i _ => ?_
  show V.int (0 + (i : Nat)) = V.int (i : Int)
  rw [Int.zero_add]
theorem ixs_len (N : Nat) : (ixs N).length = N := by
  unfold ixs
  rw [List.length_map, List.length_range]
theorem ixs_asc (N : Nat) : (ixs N).Pairwise (· ≤ ·) := by
  unfold ixs
  exact List.pairwise_map.mpr ((range_lt N).imp fun {a b} h => by omega)
theorem sorted_same {a b : List Int} (hp : a.Perm b) (ha : a.Pairwise (· ≤ ·)) (hb : b.Pairwise (· ≤ ·)) : a = b := hp.eq_of_pairwise (fun x y _ _ h1 h2 => Int.le_antisymm h1 h2) ha hb
structure IsDg (n m : Int) (bs : List (List Int)) : Prop where
  sz : siz n m = true
  ne : ∀ b ∈ bs, b ≠ []
  pm : bs.flatten.Perm (ixs (n + m).toNat)
  asc : ∀ b ∈ bs, b.Pairwise (· ≤ ·)
  hd : (bs.map fun b => co b 0).Pairwise (· ≤ ·)
theorem siz_iff {n m : Int} : siz n m = true ↔ (0 ≤ n ∧ n ≤ 8 ∧ 0 ≤ m ∧ m ≤ 8 ∧ n + m ≤ 12) := by
  unfold siz
  exact decide_eq_true_iff
theorem isDg_blocks {n m : Int} {marks : List Int} (h : siz n m = true) (hl : (marks.length : Int) = n + m) : IsDg n m (blocksOf marks) := by
  have hs := siz_iff.mp h
  refine ⟨h, blocks_ne, ?_, fun b hb => ?_, (blocks_heads marks).imp fun {a b} h => by omega⟩
  · have := blocks_perm marks
    rwa [show marks.length = (n + m).toNat by omega] at this
  · obtain ⟨v, _, rfl⟩ := List.mem_map.mp hb
    exact (posOf_asc marks v).imp fun {a b} h => by omega

section
variable {P : Program} {w : World} {K : PySem.W.Frag} {mg : Str → Option Value} {base : Heap}
/-! ### _is_size, _check_size -/
def spIsSize : Sp := fun vs H Q _ => ∃ n m : Int, vs = [.int n, .int m] ∧ Q (.bl (siz n m)) H
theorem ok_is_size_ {f : Addr} {fd : FuncData} {t8 t12 : Tok} (F : Fun K "_is_size" "_is_size" s_is_size_ f fd) (m_MOST_ON_A_SIDE : mg "MOST_ON_A_SIDE" = some (.int 8 t8)) (m_MOST_POINTS : mg "MOST_POINTS" = some (.int 12 t12)) : FnOk P w K mg base CX0 1 f fd ["n", "m"] spIsSize := by
  have r_MOST_ON_A_SIDE : RelV (.int 8) (.int 8 t8) := ⟨_, rfl⟩
  have r_MOST_POINTS : RelV (.int 12) (.int 12 t12) := ⟨_, rfl⟩
  refine F.ok sc_is_size_ (fun vs H Q E h => ?_) (fun cdv A outer s H vs Q E hr h => ?_)
  · obtain ⟨n, m, rfl, _⟩ := h
    rfl
  · obtain ⟨n, m, rfl, q⟩ := h
    refine ⟨_, (pss_one (ps_ret (pe_and (pe_chain op_le op_le pe_int (pv 0) (pe_glob rfl m_MOST_ON_A_SIDE r_MOST_ON_A_SIDE)) (pe_and (pe_chain op_le op_le pe_int (pv 1) (pe_glob rfl m_MOST_ON_A_SIDE r_MOST_ON_A_SIDE)) (pe_one (pe_cmpR op_le (pe_op op_add (pv 0) (pv 1)) (pe_glob rfl m_MOST_POINTS r_MOST_POINTS) (nomark _))))))), ?_⟩
    unfold siz at q
    refine ⟨_, rfl, _, _, rfl, rfl, _, rfl, ?_⟩
    by_cases c0 : 0 ≤ n
    · rw [decide_eq_true c0]
      refine iteT ⟨_, _, rfl, rfl, _, rfl, ?_⟩
      by_cases c1 : n ≤ 8
      · rw [decide_eq_true c1]
        refine iteT ⟨_, rfl, _, _, rfl, rfl, _, rfl, ?_⟩
        by_cases c2 : 0 ≤ m
        · rw [decide_eq_true c2]
          refine iteT ⟨_, _, rfl, rfl, _, rfl, ?_⟩
          by_cases c3 : m ≤ 8
          · rw [decide_eq_true c3]
            refine iteT ⟨_, rfl, _, rfl, _, _, rfl, rfl, _, _, rfl, rfl, ?_⟩
            rwa [show decide (0 ≤ n ∧ n ≤ 8 ∧ 0 ≤ m ∧ m ≤ 8 ∧ n + m ≤ 12) = decide (n + m ≤ 12) from decide_eq_decide.mpr ⟨fun z => z.2.2.2.2, fun z => ⟨c0, c1, c2, c3, z⟩⟩] at q
          · rw [decide_eq_false c3]
            rw [decide_eq_false fun z => c3 z.2.2.2.1] at q
            exact iteF q
        · rw [decide_eq_false c2]
          rw [decide_eq_false fun z => c2 z.2.2.1] at q
          exact iteF ⟨_, rfl, iteF q⟩
      · rw [decide_eq_false c1]
        rw [decide_eq_false fun z => c1 z.2.1] at q
        exact iteF q
    · rw [decide_eq_false c0]
      rw [decide_eq_false fun z => c0 z.1] at q
      exact iteF ⟨_, rfl, iteF q⟩
def spCheckSize (CB : Addr) : Sp := fun vs H Q E => ∃ n m : Int, vs = [.int n, .int m] ∧ (siz n m = true → Q .non H) ∧ (siz n m = false → E (.ref CB) none H)
theorem ok_check_size_ {f CB a_is_size_ : Addr} {fd fd_is_size_ : FuncData} (F : Fun K "_check_size" "_check_size" s_check_size_ f fd) (T : ErrC K mg "BadNumber" CB)
    (G_is_size_ : FnOk P w K mg base CX0 1 a_is_size_ fd_is_size_ ["n", "m"] spIsSize) (g_is_size_ : mg "_is_size" = some (.ref a_is_size_)) (k_is_size_ : PySem.W.keepIn K (.ref a_is_size_) = true) (b_is_size_ : Binds K fd_is_size_ ["n", "m"] []) :
    FnOk P w K mg base (L2N.CX P w) 2 f fd ["n", "m"] (spCheckSize CB) := by
  obtain ⟨gc_BadNumber, x_BadNumber, kc_BadNumber, bc_BadNumber, tc_BadNumber⟩ := T
  refine F.okXN sc_check_size_ (fun vs H Q E h => ?_) (fun cdv A outer s H vs Q E hr h => ?_)
  · obtain ⟨n, m, rfl, _⟩ := h
    rfl
  · obtain ⟨n, m, rfl, q1, q2⟩ := h
    refine ⟨_, (pss_one (ps_if (pt_not (pt_val (pe_call G_is_size_ (hr.mono (by decide)) rfl g_is_size_ k_is_size_ b_is_size_ .nil pass0 (pa_cons (pv 0) (pa_cons (pv 1) pa_nil))))) (pss_one (L2N.ps_raise rfl (L2N.takes_of rfl rfl rfl rfl) (L2N.pmk_own PySem.F.excBase_ValueError x_BadNumber gc_BadNumber kc_BadNumber (raises_own bc_BadNumber tc_BadNumber) rfl))) pss_nil)), ?_⟩
    refine ⟨_, rfl, _, rfl, n, m, rfl, _, rfl, ?_⟩
    cases e : siz n m with
    | true => exact iteF (q1 e)
    | false => exact iteT (q2 e)
end

theorem any_nil (bs : List (List Int)) : ((bs.map dT).any fun z => PyData.eqv z (dT [])) = bs.any fun b => decide (b = []) := by
  rw [List.any_map]
  congr 1
  funext b
  exact eqv_dT b []
theorem flat_take {bs : List (List Int)} {i : Nat} {b : List Int} (h : bs[i]? = some b) : (bs.take (i + 1)).flatten = (bs.take i).flatten ++ b := by
  rw [List.take_succ, h, List.flatten_append]
  show _ ++ (b ++ []) = _
  rw [List.append_nil]
theorem mem_len {bs : List (List Int)} {b : List Int} (h : b ∈ bs) : b.length ≤ bs.flatten.length := by
  induction bs with
  | nil => exact nomatch h
  | cons c bs ih =>
    rw [List.flatten_cons, List.length_append]
    rcases List.mem_cons.mp h with rfl | h
    · omega
    · have := ih h
      omega
section
variable {P : Program} {w : World} {K : PySem.W.Frag} {mg : Str → Option Value} {base : Heap}
/-! ### is_diagram -/
def DgOk (n m : Int) (bs : List (List Int)) : Prop := n.natAbs ≤ 1000 ∧ m.natAbs ≤ 1000 ∧ bs.length ≤ 1000 ∧ bs.flatten.length ≤ 10000
def spIsDiagram : Sp := fun vs H Q _ => ∃ (v : V) (n m : Int) (bs : List (List Int)), vs = [v] ∧ DGv H v n m bs ∧ DgOk n m bs ∧ ∀ H', Same H H' → (IsDg n m bs → Q (.bl true) H') ∧ (¬ IsDg n m bs → Q (.bl false) H')
theorem ok_is_diagram {f a_is_size_ : Addr} {fd fd_is_size_ : FuncData} (F : Fun K "is_diagram" "is_diagram" s_is_diagram f fd) (z_len : mg "len" = none) (z_list : mg "list" = none) (z_range : mg "range" = none) (z_sorted : mg "sorted" = none) (z_all : mg "all" = none)
    (G_is_size_ : FnOk P w K mg base CX0 1 a_is_size_ fd_is_size_ ["n", "m"] spIsSize) (g_is_size_ : mg "_is_size" = some (.ref a_is_size_)) (k_is_size_ : PySem.W.keepIn K (.ref a_is_size_) = true) (b_is_size_ : Binds K fd_is_size_ ["n", "m"] []) : FnOk P w K mg base CX0 2 f fd ["diagram"] spIsDiagram := by
  refine F.ok sc_is_diagram (fun vs H Q E h => ?_) (fun cdv A outer s H vs Q E hr h => ?_)
  · obtain ⟨v, n, m, bs, rfl, _⟩ := h
    rfl
  · obtain ⟨v, n, m, bs, rfl, hv, ⟨bn, bm, bl, bf⟩, q⟩ := h
    refine ⟨_, (pss_cons (ps_if (pt_cmpR op_ne (pe_callB call_len_seq (by rfl) z_len boot_len (pa_cons (pv 0) pa_nil)) pe_int (nomark _)) (pss_one (ps_ret pe_bl)) pss_nil)
  (pss_cons (ps_asg (pv 0) (pg_tup rfl (pgs_cons (pg_name (i := 1) sc_is_diagram.nd rfl (.inl rfl)) (pgs_cons (pg_name (i := 2) sc_is_diagram.nd rfl (.inl rfl)) (pgs_cons (pg_name (i := 3) sc_is_diagram.nd rfl (.inl rfl)) pgs_nil)))))
  (pss_cons (ps_if (L2.PW.pt (pw_or (pt_not (pt_val (pe_call G_is_size_ (hr.mono (by decide)) rfl g_is_size_ k_is_size_ b_is_size_ .nil pass0 (pa_cons (pv 1) (pa_cons (pv 2) pa_nil))))) (pw_or1 (pt_cmpR (op_inDT (room65 hr)) (pe_tup pa_nil) (pv 3) (by with_unfolding_all rfl))))) (pss_one (ps_ret pe_bl)) pss_nil)
  (pss_cons (ps_setLc2 (i := 4) (own := [("block", 6), ("point", 7)]) (vs1 := [7]) rfl sc_is_diagram.nd rfl rfl (sw_true rfl rfl rfl (by decide +kernel)) (pi_tup (pv 3)) (blkOk_by (N := ["diagram", "n", "m", "blocks", "points", "firsts", "block", "point"]) (sc := defScope s_is_diagram) (by decide +kernel)) (by decide) (fun _ _ _ _ _ => (pg_name (i := 6) sc_is_diagram.nd rfl (.inl rfl))) (fun _ _ _ _ _ => pts_nil) (fun _ _ _ _ _ => ((pi_tupK (K := K) rfl) (pv 6))) (fun _ _ _ _ _ => (pg_name (i := 7) sc_is_diagram.nd rfl (.inl rfl))) (fun _ _ _ _ _ => pts_nil) (fun _ _ _ _ _ => (pv 7)))
  (pss_cons (ps_if (pt_cmpR (op_neD (room64 hr)) (pe_callB cr_sortedI (by rfl) z_sorted boot_sorted (pa_cons (pv 4) pa_nil)) (pe_listRg rfl rfl z_list (prg_1 rfl z_range (pe_op op_add (pv 1) (pv 2)))) (nomark _)) (pss_one (ps_ret pe_bl)) pss_nil)
  (pss_cons (ps_if (pt_not (pt_val (pe_callB (cr_all rfl) (by rfl) z_all boot_all (pa_cons (pe_lc (own := [("block", 6)]) rfl sc_is_diagram.nd (pi_tup (pv 3)) (blkOk_by (N := ["diagram", "n", "m", "blocks", "points", "firsts", "block", "point"]) (sc := defScope s_is_diagram) (by first | decide +kernel | rfl)) (fun _ _ _ _ _ => (pg_name (i := 6) sc_is_diagram.nd rfl (.inl rfl))) (fun _ _ _ _ _ => pts_nil) (fun _ _ _ _ _ => (pe_cmpR (op_eqDK (K := K) rfl (room64 hr)) (pe_callTy (call_list_ofK (K := K) rfl) (by rfl) z_list boot_list (pa_cons (pv 6) pa_nil)) (pe_callB (cr_sortedITK (K := K) rfl) (by rfl) z_sorted boot_sorted (pa_cons (pv 6) pa_nil)) (nomark _)))) pa_nil)))) (pss_one (ps_ret pe_bl)) pss_nil)
  (pss_cons (ps_setLc (i := 5) (own := [("block", 6)]) rfl sc_is_diagram.nd rfl rfl (sw_true rfl rfl rfl (by decide +kernel)) (pi_tup (pv 3)) (blkOk_by (N := ["diagram", "n", "m", "blocks", "points", "firsts", "block", "point"]) (sc := defScope s_is_diagram) (by first | decide +kernel | rfl)) (fun _ _ _ _ _ => (pg_name (i := 6) sc_is_diagram.nd rfl (.inl rfl))) (fun _ _ _ _ _ => pts_nil) (fun _ _ _ _ _ => (pe_ix (ix_tupK (K := K) rfl) (pv 6) pe_int (fun _ _ => rfl))))
  (pss_one (ps_ret (pe_cmpR (op_eqD (room64 hr)) (pv 5) (pe_callB cr_sortedI (by rfl) z_sorted boot_sorted (pa_cons (pv 5) pa_nil)) (nomark _))))))))))), ?_⟩
    have szl : 20000 ≤ sizeLine := by decide
    obtain ⟨t, vb, rfl, ht, tb, ts, rfl, htb, pr⟩ := hv
    have lts : ts.length = bs.length := pr.length
    refine ⟨_, rfl, t, _, rfl, .inr (.inl (.inl ht)), rfl, _, rfl, ite_same ?_⟩
    refine ⟨_, rfl, t, _, rfl, .inl (.inl ht), rfl, _, _, rfl, _, _, rfl, _, _, rfl, rfl, ?_⟩
    refine ⟨_, rfl, _, rfl, n, m, rfl, _, rfl, ?_⟩
    by_cases cs : siz n m = true
    · rw [cs]
      refine iteF ?_
      have hs := siz_iff.mp cs
      refine ⟨(by show 0 ≤ sizeLine; decide), fun e0 ne0 => ?_⟩
      have s0 : Same H (upd H e0 (.tup [])) := same_upd ne0
      have tt : TT (upd H e0 (.tup [])) (.ref tb) bs := TT.same s0 ⟨tb, ts, rfl, htb, pr⟩
      refine ⟨_, rfl, dT [], bs.map dT, .tup (.inl (.inl upd_same)) .nil, tt.dp, dT_shaped [], dTT_shaped bs, _, rfl, ?_⟩
      rw [any_nil]
      have htb1 : upd H e0 (.tup []) tb = some (.tup ts) := s0 _ _ htb
      have pr1 : Paired (TP (upd H e0 (.tup []))) ts bs := Paired.mapP pr fun _ _ h => h.same s0
      revert s0 htb1 pr1
      generalize upd H e0 (.tup []) = H1
      intro s0 htb1 pr1
      clear tt htb pr
      by_cases cn : (bs.any fun b => decide (b = [])) = true
      · rw [cn]
        refine iteT ((q H1 s0).2 fun z => ?_)
        obtain ⟨b, hb, e⟩ := List.any_eq_true.mp cn
        exact z.ne b hb (of_decide_eq_true e)
      rw [Bool.not_eq_true _ |>.mp cn]
      refine iteF ?_
      have ne : ∀ b ∈ bs, b ≠ [] := fun b hb z => cn (List.any_eq_true.mpr ⟨b, hb, decide_eq_true z⟩)
      -- points
      refine ⟨_, rfl, tb, rfl, ⟨_, .inl (.inl htb1)⟩, fun D nD => ?_⟩
      have keepD : ∀ {H' : Hp} {a : Addr} {o : HO}, SameBut D H1 H' → H1 a = some o → H' a = some o := fun sb e => sb _ _ (ne_of_none e nD) e
      refine outer_it walk_tup (fun i H' => SameBut D H1 H' ∧ H' D = some (.lst ((bs.take i).flatten.map V.int))) ⟨SameBut.upd, upd_same⟩ (fun i H' _ hP => .inl (.inl (keepD hP.1 htb1))) (fun i y H2 H3 hi hP hy => ?_) (fun H2 hP => ?_)
      · obtain ⟨sb, hD⟩ := hP
        obtain ⟨e0, hy⟩ := hy
        subst e0
        obtain ⟨b, eb, a, rfl, ha⟩ := tt_get pr1 hy
        have mb := List.mem_of_getElem? eb
        have lb := mem_len mb
        refine ⟨rfl, ?_⟩
        refine ⟨_, rfl, a, rfl, ⟨_, .inl (.inl (keepD sb ha))⟩, outer_it walk_tup (fun j H' => SameBut D H1 H' ∧ H' D = some (.lst (((bs.take i).flatten ++ b.take j).map V.int))) ⟨sb, by rw [List.take_zero, List.append_nil]; exact hD⟩ (fun j H' _ hP => .inl (.inl (keepD hP.1 ha))) (fun j z H4 H5 hj hP hz => ?_) (fun H4 hP => ?_)⟩
        · obtain ⟨sb, hD⟩ := hP
          obtain ⟨e0, hz⟩ := hz
          subst e0
          rw [List.length_map] at hj
          have ez : (b.map V.int)[j]? = some (.int (co b j)) := by rw [List.getElem?_map, co_get hj]; rfl
          obtain rfl : V.int (co b j) = z := Option.some.inj (ez.symm.trans hz)
          refine ⟨rfl, ?_⟩
          refine ⟨_, rfl, _, hD, ?_, sb.trans SameBut.upd, ?_⟩
          · rw [List.length_map, List.length_append, List.length_take]
            have : (bs.take i).flatten.length ≤ bs.flatten.length := by
              have e : (bs.take i ++ bs.drop i).flatten.length = bs.flatten.length := congrArg (fun l : List (List Int) => l.flatten.length) (List.take_append_drop i bs)
              rw [List.flatten_append, List.length_append] at e
              omega
            omega
          · rw [upd_same, take_snoc hj, ← List.append_assoc, List.map_append (l₂ := [co b j])]
            rfl
        · obtain ⟨sb, hD⟩ := hP
          rw [List.length_map, List.take_length] at hD
          exact ⟨sb, by rw [flat_take eb]; exact hD⟩
      obtain ⟨sb2, hD⟩ := hP
      rw [lts, List.take_length] at hD
      have s2 : Same H1 H2 := fun b o e => keepD sb2 e
      -- sorted
      refine ⟨_, rfl, D, bs.flatten, rfl, .inl (.inl hD), fun ns' p1 pm1 srt1 np1 => ?_⟩
      refine ⟨_, rfl, _, rfl, _, _, rfl, rfl, n + m, rfl, RgOk.of_le (by decide) (by omega) (by decide) (by omega), fun p2 np2 => ?_⟩
      rw [rgV_ixs (by omega)]
      have s3 : Same H2 (upd (upd H2 p1 (.lst (ns'.map V.int))) p2 (.lst ((ixs (n + m).toNat).map V.int))) := Same.trans (same_upd np1) (same_upd np2)
      refine neD_LP (x := ns') (y := ixs (n + m).toNat) ⟨p1, rfl, same_upd np2 _ _ upd_same⟩ ⟨p2, rfl, upd_same⟩ ⟨_, rfl, ?_⟩
      have s13 := Same.trans s0 (Same.trans s2 s3)
      have htb4 := s3 _ _ (s2 _ _ htb1)
      have pr4 := Paired.mapP pr1 fun _ _ h => (TP.same s2 h).same s3
      revert s13 htb4 pr4
      generalize upd (upd H2 p1 (.lst (ns'.map V.int))) p2 (.lst ((ixs (n + m).toNat).map V.int)) = H4
      intro s13 htb4 pr4
      clear s3 s2 hD sb2 keepD nD np1 np2
      by_cases cp : ns' = ixs (n + m).toNat
      · rw [decide_eq_true cp]
        refine iteF ?_
        have pm : bs.flatten.Perm (ixs (n + m).toNat) := cp ▸ pm1.symm
        -- blocks
        refine ⟨_, rfl, tb, rfl, ⟨_, .inl (.inl htb4)⟩, fun D5 nD5 => ?_⟩
        have keep5 : ∀ {H' : Hp} {a : Addr} {o : HO}, SameBut D5 H4 H' → H4 a = some o → H' a = some o := fun sb e => sb _ _ (ne_of_none e nD5) e
        refine lc_it walk_tup (fun i H' => SameBut D5 H4 H' ∧ H' D5 = some (.lst (((bs.take i).map fun b => decide (b.Pairwise (· ≤ ·))).map V.bl))) ⟨SameBut.upd, upd_same⟩ (fun i H' _ hP => .inl (.inl (keep5 hP.1 htb4))) (fun i y H5 H6 hi hP hy => ?_) (fun H5 hP => ?_)
        · obtain ⟨sb, hD⟩ := hP
          obtain ⟨e0, hy⟩ := hy
          subst e0
          obtain ⟨b, eb, a, rfl, ha⟩ := tt_get pr4 hy
          refine ⟨rfl, ?_⟩
          have ha5 := keep5 sb ha
          refine ⟨_, rfl, a, _, rfl, .inr (.inl (.inl ha5)), fun l1 nl1 => ?_⟩
          refine ⟨_, rfl, a, b, rfl, .inl (.inl (same_upd nl1 _ _ ha5)), fun ns p pm srt np => ?_⟩
          refine eqD_LP (x := b) (y := ns) ⟨l1, rfl, same_upd np _ _ upd_same⟩ ⟨p, rfl, upd_same⟩ ?_
          have sN := Same.trans (same_upd (o := .lst (b.map V.int)) nl1) (same_upd (o := .lst (ns.map V.int)) np)
          have e : decide (b = ns) = decide (b.Pairwise (· ≤ ·)) := decide_eq_decide.mpr ⟨fun z => by rw [z]; exact srt, fun z => sorted_same pm.symm z srt⟩
          refine ⟨_, sN _ _ hD, by rw [List.length_map, List.length_map, List.length_take]; omega, (sb.trans (Same.but sN)).trans SameBut.upd, ?_⟩
          rw [upd_same, List.take_succ, eb, e, List.map_append, List.map_append]
          rfl
        obtain ⟨sb5, hD5⟩ := hP
        rw [lts, List.take_length] at hD5
        have s5 : Same H4 H5 := fun b o e => keep5 sb5 e
        refine ⟨D5, _, rfl, .inl (.inl hD5), _, rfl, ?_⟩
        have htb5 := s5 _ _ htb4
        have pr5 := Paired.mapP pr4 fun _ _ h => TP.same s5 h
        have s15 := Same.trans s13 s5
        by_cases ca : ((bs.map fun b => decide (b.Pairwise (· ≤ ·))).all id) = true
        · rw [ca]
          refine iteF ?_
          have asc : ∀ b ∈ bs, b.Pairwise (· ≤ ·) := fun b hb => of_decide_eq_true (List.all_eq_true.mp ca _ (List.mem_map_of_mem hb))
          -- firsts
          refine ⟨_, rfl, tb, rfl, ⟨_, .inl (.inl htb5)⟩, fun D6 nD6 => ?_⟩
          have keep6 : ∀ {H' : Hp} {a : Addr} {o : HO}, SameBut D6 H5 H' → H5 a = some o → H' a = some o := fun sb e => sb _ _ (ne_of_none e nD6) e
          refine lc_it walk_tup (fun i H' => SameBut D6 H5 H' ∧ H' D6 = some (.lst (((bs.take i).map fun b => co b 0).map V.int))) ⟨SameBut.upd, upd_same⟩ (fun i H' _ hP => .inl (.inl (keep6 hP.1 htb5))) (fun i y H6 H7 hi hP hy => ?_) (fun H6 hP => ?_)
          · obtain ⟨sb, hD⟩ := hP
            obtain ⟨e0, hy⟩ := hy
            subst e0
            obtain ⟨b, eb, a, rfl, ha⟩ := tt_get pr5 hy
            have nb := List.length_pos_iff.mpr (ne b (List.mem_of_getElem? eb))
            refine ⟨rfl, ?_⟩
            refine ⟨_, rfl, a, _, 0, _, rfl, rfl, .inl (.inl (keep6 sb ha)), at_co nb, _, hD, by rw [List.length_map, List.length_map, List.length_take]; omega, sb.trans SameBut.upd, ?_⟩
            rw [upd_same, List.take_succ, eb, List.map_append, List.map_append]
            rfl
          obtain ⟨sb6, hD6⟩ := hP
          rw [lts, List.take_length] at hD6
          have s6 : Same H5 H6 := fun b o e => keep6 sb6 e
          refine ⟨_, rfl, _, rfl, D6, _, rfl, .inl (.inl hD6), fun ns p pm6 srt np => ?_⟩
          refine eqD_LP (x := bs.map fun b => co b 0) (y := ns) ⟨D6, rfl, same_upd np _ _ hD6⟩ ⟨p, rfl, upd_same⟩ ?_
          obtain ⟨qt, qf⟩ := q _ (Same.trans s15 (Same.trans s6 (same_upd np)))
          by_cases ch : (bs.map fun b => co b 0) = ns
          · rw [decide_eq_true ch]
            exact qt ⟨cs, ne, pm, asc, ch ▸ srt⟩
          · rw [decide_eq_false ch]
            exact qf fun z => ch (sorted_same pm6.symm z.hd srt)
        · rw [Bool.not_eq_true _ |>.mp ca]
          refine iteT ((q H5 s15).2 fun z => ca (List.all_eq_true.mpr fun c hc => ?_))
          obtain ⟨b, hb, rfl⟩ := List.mem_map.mp hc
          exact decide_eq_true (z.asc b hb)
      · rw [decide_eq_false cp]
        exact iteT ((q H4 s13).2 fun z => cp (sorted_same (pm1.trans z.pm) srt1 (ixs_asc _)))
    · rw [Bool.not_eq_true _ |>.mp cs]
      exact iteT ((q H (Same.refl _)).2 fun z => cs z.sz)
end

section
variable {P : Program} {w : World} {K : PySem.W.Frag} {mg : Str → Option Value} {base : Heap}
/-! ### check_diagram, labels -/
def spCheckDiagram (CD : Addr) : Sp := fun vs H Q E => ∃ (v : V) (n m : Int) (bs : List (List Int)), vs = [v] ∧ DGv H v n m bs ∧ DgOk n m bs ∧ ∀ H', Same H H' → (IsDg n m bs → Q .non H') ∧ (¬ IsDg n m bs → E (.ref CD) none H')
theorem ok_check_diagram {f CD a_is_diagram : Addr} {fd fd_is_diagram : FuncData} (F : Fun K "check_diagram" "check_diagram" s_check_diagram f fd) (T : ErrC K mg "NotDiagram" CD)
    (G_is_diagram : FnOk P w K mg base CX0 2 a_is_diagram fd_is_diagram ["diagram"] spIsDiagram) (g_is_diagram : mg "is_diagram" = some (.ref a_is_diagram)) (k_is_diagram : PySem.W.keepIn K (.ref a_is_diagram) = true) (b_is_diagram : Binds K fd_is_diagram ["diagram"] []) :
    FnOk P w K mg base (L2N.CX P w) 3 f fd ["diagram"] (spCheckDiagram CD) := by
  obtain ⟨gc_NotDiagram, x_NotDiagram, kc_NotDiagram, bc_NotDiagram, tc_NotDiagram⟩ := T
  refine F.okXN sc_check_diagram (fun vs H Q E h => ?_) (fun cdv A outer s H vs Q E hr h => ?_)
  · obtain ⟨v, n, m, bs, rfl, _⟩ := h
    rfl
  · obtain ⟨v, n, m, bs, rfl, hv, hb, q⟩ := h
    refine ⟨_, (pss_one (ps_if (pt_not (pt_val (pe_call G_is_diagram (hr.mono (by decide)) rfl g_is_diagram k_is_diagram b_is_diagram .nil pass0 (pa_cons (pv 0) pa_nil)))) (pss_one (L2N.ps_raise rfl (L2N.takes_of rfl rfl rfl rfl) (L2N.pmk_own PySem.F.excBase_ValueError x_NotDiagram gc_NotDiagram kc_NotDiagram (raises_own bc_NotDiagram tc_NotDiagram) rfl))) pss_nil)), ?_⟩
    exact ⟨_, rfl, v, n, m, bs, rfl, hv, hb, fun H' s' => ⟨fun h => ⟨_, rfl, iteF ((q H' s').1 h)⟩, fun h => ⟨_, rfl, iteT ((q H' s').2 h)⟩⟩⟩
end
def labN (bs : List (List Int)) (i : Nat) (N : Nat) : List Int := labFrom (bs.take i) 0 (List.replicate N 0)
theorem labFrom_snoc : ∀ (bs : List (List Int)) (b : List Int) (k : Nat) (ms : List Int), labFrom (bs ++ [b]) k ms = b.foldl (fun ms p => ms.set p.toNat ((k + bs.length : Nat) : Int)) (labFrom bs k ms)
  | [], b, k, ms => rfl
  | c :: bs, b, k, ms => by
    show labFrom (bs ++ [b]) (k + 1) _ = _
    rw [labFrom_snoc bs b (k + 1), show k + 1 + bs.length = k + (c :: bs).length by rw [List.length_cons]; omega]
    rfl
theorem fold_take {k : Int} {b ms : List Int} {j : Nat} (h : j < b.length) : (b.take (j + 1)).foldl (fun ms p => ms.set p.toNat k) ms = ((b.take j).foldl (fun ms p => ms.set p.toNat k) ms).set (co b j).toNat k := by
  rw [take_snoc h, List.foldl_append]
  rfl
theorem dg_pt {n m : Int} {bs : List (List Int)} (h : IsDg n m bs) {b : List Int} (hb : b ∈ bs) {p : Int} (hp : p ∈ b) : 0 ≤ p ∧ p < n + m := by
  have h1 := h.pm.mem_iff.mp (List.mem_flatten.mpr ⟨b, hb, hp⟩)
  obtain ⟨i, hi, rfl⟩ := List.mem_map.mp h1
  have := List.mem_range.mp hi
  omega

section
variable {P : Program} {w : World} {K : PySem.W.Frag} {mg : Str → Option Value} {base : Heap}
def spLabels (CD : Addr) : Sp := fun vs H Q E => ∃ (v : V) (n m : Int) (bs : List (List Int)), vs = [v] ∧ DGv H v n m bs ∧ DgOk n m bs ∧ (¬ IsDg n m bs → ∀ H', Same H H' → E (.ref CD) none H') ∧
  (IsDg n m bs → ∀ D H', Same H H' → H D = none → H' D = some (.lst ((labL bs (n + m).toNat).map V.int)) → Q (.ref D) H')
theorem ok_labels {f CD a_check_diagram : Addr} {fd fd_check_diagram : FuncData} (F : Fun K "labels" "labels" s_labels f fd) (z_enumerate : mg "enumerate" = none) (z_range : mg "range" = none)
    (G_check_diagram : FnOk P w K mg base (L2N.CX P w) 3 a_check_diagram fd_check_diagram ["diagram"] (spCheckDiagram CD)) (g_check_diagram : mg "check_diagram" = some (.ref a_check_diagram)) (k_check_diagram : PySem.W.keepIn K (.ref a_check_diagram) = true) (b_check_diagram : Binds K fd_check_diagram ["diagram"] []) :
    FnOk P w K mg base (L2N.CX P w) 4 f fd ["diagram"] (spLabels CD) := by
  refine F.okXN sc_labels (fun vs H Q E h => ?_) (fun cdv A outer s H vs Q E hr h => ?_)
  · obtain ⟨v, n, m, bs, rfl, _⟩ := h
    rfl
  · obtain ⟨v, n, m, bs, rfl, hv, hb, q1, q⟩ := h
    refine ⟨_, (pss_cons (ps_expr (pe_call G_check_diagram (hr.mono (by decide)) rfl g_check_diagram k_check_diagram b_check_diagram .nil (L2N.passes_call (L2N.takes_of rfl rfl rfl rfl) (fun _ _ _ _ h => h)) (pa_cons (pv 0) pa_nil)))
  (pss_cons (ps_asg (pv 0) (pg_tup rfl (pgs_cons (pg_name (i := 1) sc_labels.nd rfl (.inl rfl)) (pgs_cons (pg_name (i := 2) sc_labels.nd rfl (.inl rfl)) (pgs_cons (pg_name (i := 3) sc_labels.nd rfl (.inl rfl)) pgs_nil)))))
  (pss_cons (ps_setLc (i := 4) (own := [("_", 8)]) rfl sc_labels.nd rfl rfl (sw_true rfl rfl rfl (by decide +kernel)) (pi_range1 rfl z_range (pa_cons (pe_op op_add (pv 1) (pv 2)) pa_nil)) (blkOk_by (N := ["diagram", "n", "m", "blocks", "marks", "k", "block", "point", "_"]) (sc := defScope s_labels) (by first | decide +kernel | rfl)) (fun _ _ _ _ _ => (pg_name (i := 8) sc_labels.nd rfl (.inl rfl))) (fun _ _ _ _ _ => pts_nil) (fun _ _ _ _ _ => pe_int))
  (pss_cons (ps_for (passes_of rfl) rfl (pi_enumT rfl z_enumerate (pa_cons (pv 3) pa_nil)) (pg_tup rfl (pgs_cons (pg_name (i := 5) sc_labels.nd rfl (.inl rfl)) (pgs_cons (pg_name (i := 6) sc_labels.nd rfl (.inl rfl)) pgs_nil))) (pss_one (ps_for (passes_of rfl) rfl (pi_tup (pv 6)) (pg_name (i := 7) sc_labels.nd rfl (.inl rfl)) (pss_one (ps_asg (pv 5) (pg_sub (pv 4) (pv 7) set_list))))))
  (pss_one (ps_ret (pv 4))))))), ?_⟩
    have szl : 20000 ≤ sizeLine := by decide
    refine ⟨_, rfl, v, n, m, bs, rfl, hv, hb, fun H1 s1 => ⟨fun dg => ?_, fun nd => q1 nd H1 s1⟩⟩
    have q := q dg
    have hs := siz_iff.mp dg.sz
    obtain ⟨t, vb, rfl, ht, tb, ts, rfl, htb, pr⟩ := DGv.same s1 hv
    have lts : ts.length = bs.length := pr.length
    refine ⟨_, rfl, t, _, rfl, .inl (.inl ht), rfl, _, _, rfl, _, _, rfl, _, _, rfl, rfl, ?_⟩
    obtain ⟨N, eN⟩ : ∃ N : Nat, n + m = (N : Int) := ⟨(n + m).toNat, by omega⟩
    refine ⟨_, rfl, _, rfl, _, _, rfl, rfl, ?_⟩
    dsimp only
    rw [eN]
    refine ⟨_, rfl, by omega, by omega, fun D nD => lc_range (lo := 0) (n := N) (fun i H' => SameBut D H1 H' ∧ H' D = some (.lst ((List.replicate i (0 : Int)).map V.int))) ⟨SameBut.upd, upd_same⟩ (fun i H' hi hP => ?_) (fun H2 hP => ?_)⟩
    · obtain ⟨sb, hD⟩ := hP
      refine ⟨rfl, _, hD, by rw [List.length_map, List.length_replicate]; omega, sb.trans SameBut.upd, ?_⟩
      rw [upd_same, List.replicate_succ', List.map_append]
      rfl
    obtain ⟨sb, hD2⟩ := hP
    have s2 : Same H1 H2 := fun a o e => sb a o (ne_of_none e nD) e
    have nD1 := nD
    have nD0 := none_back s1 nD1
    have htb2 := s2 _ _ htb
    refine ⟨_, rfl, tb, ts, rfl, .inl (.inl htb2), for_it walk_enumT (fun i σ H' => ∃ v5 v6 v7 v8, σ = [some (.ref t), some (.int n), some (.int m), some (.ref (tb)), some (.ref D), v5, v6, v7, v8] ∧ Same H1 H' ∧ H' D = some (.lst ((labN bs i N).map V.int)))
      ⟨_, _, _, _, rfl, s2, hD2⟩ (fun i σ H' _ ⟨_, _, _, _, _, s', _⟩ => .inl (.inl (s' _ _ htb))) (fun i y σ H3 H4 hi hP hy => ?_) (fun σ H' hP => ?_)⟩
    · obtain ⟨v5, v6, v7, v8, rfl, s3, hD3⟩ := hP
      obtain ⟨p, x, y', rfl, np, rfl, ex, ey⟩ := hy
      obtain rfl : V.int (i : Nat) = x := Option.some.inj ex
      obtain ⟨b, eb, a, rfl, ha⟩ := tt_get pr ey
      have mb := List.mem_of_getElem? eb
      refine ⟨p, _, rfl, .inl (.inl upd_same), rfl, _, _, rfl, _, _, rfl, rfl, ?_⟩
      have s4 : Same H1 (upd H3 p (.tup [.int (i : Nat), .ref a])) := Same.trans s3 (same_upd np)
      have hD4 : upd H3 p (.tup [.int (i : Nat), .ref a]) D = some (.lst ((labN bs i N).map V.int)) := same_upd np _ _ hD3
      revert s4 hD4
      generalize upd H3 p (.tup [.int (i : Nat), .ref a]) = H5
      intro s4 hD4
      have hi' : i < bs.length := by rw [← lts]; exact hi
      refine ⟨_, rfl, a, rfl, ⟨_, .inl (.inl (s4 _ _ ha))⟩, for_it walk_tup (fun j σ H' => ∃ v7, σ = [some (.ref t), some (.int n), some (.int m), some (.ref tb), some (.ref D), some (.int (i : Nat)), some (.ref a), v7, v8] ∧ Same H1 H' ∧ H' D = some (.lst (((b.take j).foldl (fun ms p => ms.set p.toNat (i : Int)) (labN bs i N)).map V.int)))
        ⟨v7, rfl, s4, hD4⟩ (fun j σ H' _ ⟨_, _, s', _⟩ => .inl (.inl (s' _ _ ha))) (fun j y σ H6 H7 hj hP hy => ?_) (fun σ H' hP => ?_)⟩
      · obtain ⟨v7, rfl, s5, hD5⟩ := hP
        obtain ⟨e0, hy⟩ := hy
        subst e0
        rw [List.length_map] at hj
        have ez : (b.map V.int)[j]? = some (.int (co b j)) := by rw [List.getElem?_map, co_get hj]; rfl
        obtain rfl : V.int (co b j) = y := Option.some.inj (ez.symm.trans hy)
        obtain ⟨c0, c1⟩ := dg_pt dg mb (co_mem hj)
        have ll : ((b.take j).foldl (fun ms p => ms.set p.toNat (i : Int)) (labN bs i N)).length = N := by
          rw [fold_len]
          unfold labN
          rw [labFrom_len, List.length_replicate]
        refine ⟨_, rfl, _, rfl, _, rfl, D, _, _, (co b j).toNat, rfl, rfl, hD5, (by obtain ⟨u, hu⟩ := Int.eq_ofNat_of_zero_le c0; rw [hu]; exact ixN_nat (by rw [List.length_map, ll]; omega)), ?_⟩
        refine ⟨_, rfl, Same.mut s5 nD1, ?_⟩
        rw [upd_same, map_set, fold_take hj]
      · obtain ⟨v7, rfl, s5, hD5⟩ := hP
        rw [List.length_map, List.take_length] at hD5
        refine ⟨_, _, _, _, rfl, s5, ?_⟩
        rw [hD5]
        unfold labN
        rw [List.take_succ, eb, show (some b).toList = [b] from rfl, labFrom_snoc, List.length_take, Nat.min_eq_left (by omega), Nat.zero_add]
    · obtain ⟨v5, v6, v7, v8, rfl, s3, hD3⟩ := hP
      refine ⟨_, rfl, q D H' (Same.trans s1 s3) nD0 ?_⟩
      rw [hD3, eN]
      unfold labN labL
      rw [lts, List.take_length]
      rfl
end

/-! ### marks as they are drawn -/
def Strand (n : Nat) (l : List Int) : Prop := ∀ p q : Nat, p < q → q < l.length → co l p = co l q → p < n ∧ n ≤ q
def Mated (l : List Int) : Prop := ∀ p : Nat, p < l.length → ∃ q, q < l.length ∧ q ≠ p ∧ co l q = co l p
structure FamM (z : Str) (n m : Nat) (l : List Int) : Prop where
  st : z = "threads" ∨ z = "loose" → Strand n l
  ma : z = "threads" → n = m → Mated l
  pa : z = "pairs" → (n + m) % 2 = 0 → ∀ v ∈ l, l.count v = 2
  lo : z = "lonepairs" → ∀ v, l.count v ≤ 2
  ev : z = "even" → (n + m) % 2 = 0 → ∀ v, l.count v % 2 = 0
theorem mem_ixs {N : Nat} {x : Int} : x ∈ ixs N ↔ 0 ≤ x ∧ x < (N : Int) := by
  unfold ixs
  rw [List.mem_map]
  constructor
  · rintro ⟨i, hi, rfl⟩
    have := List.mem_range.mp hi
    omega
  · rintro ⟨h0, h1⟩
    exact ⟨x.toNat, List.mem_range.mpr (by omega), by omega⟩
theorem ixs_len' (N : Nat) : (ixs N).length = N := by
  unfold ixs
  rw [List.length_map, List.length_range]
theorem co_ixs {N i : Nat} (h : i < N) : co (ixs N) i = (i : Int) := by
  have e := co_get (l := ixs N) (k := i) (by rw [ixs_len']; exact h)
  unfold ixs at e ⊢
  rw [List.getElem?_map, List.getElem?_range h] at e
  exact (Option.some.inj e).symm
theorem ixs_nodup (N : Nat) : (ixs N).Nodup := by
  unfold ixs
  exact List.pairwise_map.mpr ((range_lt N).imp fun {a b} h => by omega)
theorem co_app_l {a b : List Int} {i : Nat} (h : i < a.length) : co (a ++ b) i = co a i := by
  have e := co_get (l := a ++ b) (k := i) (by rw [List.length_append]; omega)
  rw [List.getElem?_append_left h, co_get h] at e
  exact (Option.some.inj e).symm
theorem co_app_r {a b : List Int} {i : Nat} (h : i < b.length) : co (a ++ b) (a.length + i) = co b i := by
  have e := co_get (l := a ++ b) (k := a.length + i) (by rw [List.length_append]; omega)
  rw [List.getElem?_append_right (by omega), show a.length + i - a.length = i by omega, co_get h] at e
  exact (Option.some.inj e).symm
theorem nodup_erase {l : List Int} (h : l.Nodup) {k : Nat} (hk : k < l.length) {y : Int} (hy : y ∈ l.eraseIdx k) : y ∈ l ∧ y ≠ co l k := by
  refine ⟨List.mem_of_mem_eraseIdx hy, fun e => ?_⟩
  obtain ⟨j, hj⟩ := List.mem_eraseIdx_iff_getElem?.mp hy
  have e2 := co_get hk
  rw [← e] at e2
  have lj := (List.getElem?_eq_some_iff.mp hj.2)
  obtain ⟨lj1, lj2⟩ := lj
  obtain ⟨lk1, lk2⟩ := List.getElem?_eq_some_iff.mp e2
  exact hj.1 ((List.getElem_inj h).mp (lj2.trans lk2.symm))
theorem mem_erase_ne {l : List Int} {k : Nat} (hk : k < l.length) {y : Int} (hy : y ∈ l) (ne : y ≠ co l k) : y ∈ l.eraseIdx k := by
  obtain ⟨j, hj, e⟩ := mem_get hy
  refine List.mem_eraseIdx_iff_getElem?.mpr ⟨j, fun c => ne ?_, ?_⟩
  · rw [← e, c]
  · rw [co_get hj, e]
/-- while marks are threaded -/
structure ThrI (n m i : Nat) (l ls : List Int) : Prop where
  len : l.length = n + m
  up : ∀ p : Nat, p < n → co l p = p
  low : ∀ j : Nat, j < m → co l (n + j) = -1 - (j : Int) ∨ (0 ≤ co l (n + j) ∧ co l (n + j) < i)
  dis : ∀ j j' : Nat, j < j' → j' < m → co l (n + j) ≠ co l (n + j')
  nd : ls.Nodup
  free : ∀ x ∈ ls, ∃ j : Nat, x = j ∧ j < m ∧ co l (n + j) = -1 - (j : Int)
  rest : ∀ j : Nat, j < m → (j : Int) ∉ ls → 0 ≤ co l (n + j)
  cap : ls.length ≤ m
structure ThrT (n m i : Nat) (l ls : List Int) : Prop where
  many : ls.length = m - i
  hit : ∀ a : Nat, a < i → ∃ j, j < m ∧ co l (n + j) = a
theorem ThrI.skip {n m i : Nat} {l ls : List Int} (h : ThrI n m i l ls) : ThrI n m (i + 1) l ls :=
  ⟨h.len, h.up, fun j hj => (h.low j hj).imp_right fun z => ⟨z.1, by omega⟩, h.dis, h.nd, h.free, h.rest, h.cap⟩
theorem thr_at {n m i : Nat} {l ls : List Int} (h : ThrI n m i l ls) {k : Nat} (hk : k < ls.length) : ∃ j : Nat, co ls k = j ∧ j < m ∧ co l (n + j) = -1 - (j : Int) := h.free _ (co_mem hk)
theorem ThrI.step {n m i : Nat} {l ls : List Int} (h : ThrI n m i l ls) {k j : Nat} (hk : k < ls.length) (hj : j < m) (ej : co ls k = j) : ThrI n m (i + 1) (l.set (n + j) (i : Int)) (ls.eraseIdx k) := by
  have hl := h.len
  have c : ∀ p : Nat, co (l.set (n + j) (i : Int)) p = if p = n + j then (i : Int) else co l p := fun p => co_set p (by omega)
  refine ⟨by rw [List.length_set]; exact hl, fun p hp => ?_, fun j' hj' => ?_, fun j1 j2 h1 h2 => ?_, h.nd.sublist (List.eraseIdx_sublist _ _), fun x hx => ?_, fun j' hj' hn => ?_, by rw [List.length_eraseIdx_of_lt hk]; have := h.cap; omega⟩
  · rw [c, if_neg (by omega)]
    exact h.up p hp
  · rw [c]
    by_cases e : j' = j
    · rw [if_pos (by omega)]
      exact .inr ⟨by omega, by omega⟩
    · rw [if_neg (by omega)]
      exact (h.low j' hj').imp_right fun z => ⟨z.1, by omega⟩
  · rw [c, c]
    have d := h.dis j1 j2 h1 h2
    have l1 := h.low j1 (by omega)
    have l2 := h.low j2 (by omega)
    by_cases e1 : j1 = j
    · rw [if_pos (by omega), if_neg (by omega)]
      omega
    · rw [if_neg (by omega)]
      by_cases e2 : j2 = j
      · rw [if_pos (by omega)]
        omega
      · rw [if_neg (by omega)]
        exact d
  · obtain ⟨hx1, hx2⟩ := nodup_erase h.nd hk hx
    obtain ⟨j', e1, e2, e3⟩ := h.free x hx1
    refine ⟨j', e1, e2, ?_⟩
    rw [c, if_neg (by omega)]
    exact e3
  · rw [c]
    by_cases e : j' = j
    · rw [if_pos (by omega)]
      omega
    · rw [if_neg (by omega)]
      exact h.rest j' hj' fun z => hn (mem_erase_ne hk z (by rw [ej]; omega))
theorem ThrT.step {n m i : Nat} {l ls : List Int} (h : ThrI n m i l ls) (t : ThrT n m i l ls) {k j : Nat} (hk : k < ls.length) (hj : j < m) (ej : co ls k = j) : ThrT n m (i + 1) (l.set (n + j) (i : Int)) (ls.eraseIdx k) := by
  have hl := h.len
  have c : ∀ p : Nat, co (l.set (n + j) (i : Int)) p = if p = n + j then (i : Int) else co l p := fun p => co_set p (by omega)
  refine ⟨by rw [List.length_eraseIdx_of_lt hk, t.many]; omega, fun a ha => ?_⟩
  by_cases e : a = i
  · exact ⟨j, hj, by rw [c, if_pos rfl, e]⟩
  · obtain ⟨j', h1, h2⟩ := t.hit a (by omega)
    refine ⟨j', h1, ?_⟩
    rw [c, if_neg]
    · exact h2
    · intro z
      obtain ⟨j3, e3, _, e4⟩ := thr_at h hk
      rw [z] at h2
      rw [ej] at e3
      have : j3 = j := by omega
      rw [this] at e4
      omega
theorem ThrI.strand {n m i : Nat} {l ls : List Int} (h : ThrI n m i l ls) : Strand n l := by
  intro p q hpq hq e
  have hl := h.len
  rcases Nat.lt_or_ge q n with c | c
  · rw [h.up p (by omega), h.up q c] at e
    omega
  · refine ⟨?_, c⟩
    rcases Nat.lt_or_ge p n with c2 | c2
    · exact c2
    · refine absurd ?_ (h.dis (p - n) (q - n) (by omega) (by omega))
      rw [show n + (p - n) = p by omega, show n + (q - n) = q by omega]
      exact e
theorem ThrI.mated {n : Nat} {l ls : List Int} (h : ThrI n n n l ls) (t : ThrT n n n l ls) : Mated l := by
  intro p hp
  have hl := h.len
  have e0 : ls = [] := List.length_eq_zero_iff.mp (by rw [t.many]; omega)
  rcases Nat.lt_or_ge p n with c | c
  · obtain ⟨j, hj, e⟩ := t.hit p c
    exact ⟨n + j, by omega, by omega, by rw [e, h.up p c]⟩
  · have r := h.rest (p - n) (by omega) (by rw [e0]; exact fun z => nomatch z)
    have lo := h.low (p - n) (by omega)
    rw [show n + (p - n) = p by omega] at r lo
    refine ⟨(co l p).toNat, by omega, by omega, ?_⟩
    rw [h.up _ (by omega)]
    omega
/-- while marks are paired -/
structure PrI (lone : Bool) (N i : Nat) (l ls : List Int) : Prop where
  len : l.length = N
  nd : ls.Nodup
  free : ∀ x ∈ ls, ∃ p : Nat, x = p ∧ p < N ∧ co l p = x ∧ l.count x = 1
  rest : ∀ v, v ∉ ls → l.count v = 0 ∨ l.count v = 2 ∨ (lone = true ∧ l.count v = 1)
  many : lone = false → ls.length + 2 * i = N
  cap : ls.length ≤ N
theorem count_ixs {N : Nat} {x : Int} (h : x ∈ ixs N) : (ixs N).count x = 1 := (ixs_nodup N).count.trans (if_pos h)
theorem PrI.start (lone : Bool) (N : Nat) : PrI lone N 0 (ixs N) (ixs N) :=
  ⟨ixs_len' N, ixs_nodup N, fun x hx => ⟨x.toNat, by have := mem_ixs.mp hx; omega, by have := mem_ixs.mp hx; omega, by have := mem_ixs.mp hx; rw [co_ixs (by omega)]; omega, count_ixs hx⟩, fun v hv => .inl (List.count_eq_zero.mpr hv), fun _ => ixs_len' N, Nat.le_of_eq (ixs_len' N)⟩
theorem PrI.step {lone : Bool} {N i : Nat} {l ls : List Int} {one : Int} (h : PrI lone N i l (one :: ls)) {k p : Nat} (hk : k < ls.length) (hp : p < N) (ep : co ls k = p) : PrI lone N (i + 1) (l.set p one) (ls.eraseIdx k) := by
  obtain ⟨n1, n2⟩ := List.nodup_cons.mp h.nd
  have mx := co_mem hk
  obtain ⟨p', e1, e2, e3, e4⟩ := h.free (co ls k) (List.mem_cons_of_mem _ mx)
  obtain rfl : p' = p := by omega
  have hl := h.len
  have nx : one ≠ co ls k := fun z => n1 (z ▸ mx)
  obtain ⟨po, o1, o2, o3, o4⟩ := h.free one List.mem_cons_self
  have g : l[p']'(by omega) = co ls k := by
    have := co_get (l := l) (k := p') (by omega)
    rw [List.getElem?_eq_getElem (by omega)] at this
    rw [Option.some.inj this, e3]
  have cs : ∀ b, (l.set p' one).count b = l.count b - (if co ls k = b then 1 else 0) + (if one = b then 1 else 0) := by
    intro b
    rw [List.count_set (by omega), g]
    simp only [beq_iff_eq]
  refine ⟨by rw [List.length_set]; exact hl, n2.sublist (List.eraseIdx_sublist _ _), fun y hy => ?_, fun v hv => ?_, fun e => ?_, by have := h.cap; rw [List.length_cons] at this; rw [List.length_eraseIdx_of_lt hk]; omega⟩
  · obtain ⟨h1, h2⟩ := nodup_erase n2 hk hy
    obtain ⟨q, f1, f2, f3, f4⟩ := h.free y (List.mem_cons_of_mem _ h1)
    refine ⟨q, f1, f2, ?_, ?_⟩
    · rw [co_set q (by omega), if_neg (by omega)]
      exact f3
    · rw [cs, if_neg (Ne.symm h2), if_neg (show ¬ one = y from fun z => n1 (z ▸ h1))]
      exact f4
  · rw [cs]
    by_cases c1 : one = v
    · rw [if_pos c1, if_neg fun z => nx (c1.trans z.symm), ← c1, o4]
      exact .inr (.inl rfl)
    · rw [if_neg c1]
      by_cases c2 : co ls k = v
      · rw [if_pos c2, ← c2, e4]
        exact .inl rfl
      · rw [if_neg c2]
        exact h.rest v fun z => by
          rcases List.mem_cons.mp z with z | z
          · exact c1 z.symm
          · exact hv (mem_erase_ne hk z (Ne.symm c2))
  · have := h.many e
    rw [List.length_cons] at this
    rw [List.length_eraseIdx_of_lt hk]
    omega
theorem PrI.skip {N i : Nat} {l ls : List Int} {one : Int} (h : PrI true N i l (one :: ls)) : PrI true N (i + 1) l ls := by
  obtain ⟨n1, n2⟩ := List.nodup_cons.mp h.nd
  refine ⟨h.len, n2, fun y hy => h.free y (List.mem_cons_of_mem _ hy), fun v hv => ?_, (fun e => nomatch e), by have := h.cap; rw [List.length_cons] at this; omega⟩
  by_cases c : v = one
  · obtain ⟨_, _, _, _, e⟩ := h.free one List.mem_cons_self
    exact .inr (.inr ⟨rfl, c ▸ e⟩)
  · exact h.rest v fun z => (List.mem_cons.mp z).elim c hv
theorem PrI.two {N i : Nat} {l ls : List Int} (h : PrI false N i l ls) (e : ls.length < 2 ∨ i = N) (hN : N % 2 = 0) (v : Int) : l.count v = 0 ∨ l.count v = 2 := by
  have m := h.many rfl
  have e0 : ls = [] := List.length_eq_zero_iff.mp (by omega)
  rcases h.rest v (by rw [e0]; exact fun z => nomatch z) with h | h | h
  · exact .inl h
  · exact .inr h
  · exact nomatch h.1
theorem PrI.most {lone : Bool} {N i : Nat} {l ls : List Int} (h : PrI lone N i l ls) (v : Int) : l.count v ≤ 2 := by
  by_cases c : v ∈ ls
  · obtain ⟨_, _, _, _, e⟩ := h.free v c
    omega
  · rcases h.rest v c with h | h | h <;> omega
/-- two marks joined -/
def jn (l : List Int) (x y : Nat) : List Int := l.map fun c => if c = (if co l y > co l x then co l y else co l x) then (if co l y < co l x then co l y else co l x) else c
theorem jn_len (l : List Int) (x y : Nat) : (jn l x y).length = l.length := List.length_map ..
theorem count_merge (lo hi v : Int) : ∀ l : List Int, (l.map fun c => if c = hi then lo else c).count v = if v = lo then l.count lo + (if hi = lo then 0 else l.count hi) else if v = hi then 0 else l.count v
  | [] => by simp
  | a :: l => by
    rw [List.map_cons, List.count_cons, count_merge lo hi v l, List.count_cons, List.count_cons, List.count_cons]
    simp only [beq_iff_eq]
    by_cases c1 : v = lo
    · subst c1
      rw [if_pos rfl, if_pos rfl]
      by_cases c2 : hi = v
      · subst c2
        rw [if_pos rfl, if_pos rfl]
        by_cases c3 : a = hi <;> simp [c3]
      · rw [if_neg c2, if_neg c2]
        by_cases c3 : a = hi
        · subst c3
          rw [if_pos rfl, if_pos rfl, if_neg c2]
          simp
          omega
        · rw [if_neg c3]
          by_cases c4 : a = v
          · simp [c4]
            rw [if_neg (fun z => c3 (c4.trans z))]
            omega
          · simp [c4, c3]
    · rw [if_neg c1, if_neg c1]
      by_cases c2 : v = hi
      · subst c2
        rw [if_pos rfl, if_pos rfl]
        by_cases c3 : a = v
        · rw [if_pos c3, if_neg (Ne.symm c1)]
        · rw [if_neg c3, if_neg c3]
      · rw [if_neg c2, if_neg c2]
        by_cases c3 : a = hi
        · rw [if_pos c3, if_neg (Ne.symm c1), if_neg]
          intro z
          exact c2 (z.symm.trans c3)
        · rw [if_neg c3]
theorem jn_even {l : List Int} {x y : Nat} (h : ∀ v, l.count v % 2 = 0) (v : Int) : (jn l x y).count v % 2 = 0 := by
  unfold jn
  rw [count_merge]
  have h1 := h (if co l y < co l x then co l y else co l x)
  have h2 := h (if co l y > co l x then co l y else co l x)
  have h3 := h v
  revert h1 h2
  generalize (if co l y < co l x then co l y else co l x) = lo
  generalize (if co l y > co l x then co l y else co l x) = hi
  intro h1 h2
  by_cases c1 : v = lo
  · rw [if_pos c1]
    by_cases c2 : hi = lo
    · rw [if_pos c2]
      omega
    · rw [if_neg c2]
      omega
  · rw [if_neg c1]
    by_cases c2 : v = hi
    · rw [if_pos c2]
    · rw [if_neg c2]
      exact h3

/-! ### tuples of tuples, put together and cut -/
theorem paired_drop {α β : Type} {F : α → β → Prop} : ∀ {l : List α} {m : List β} (i : Nat), Paired F l m → Paired F (l.drop i) (m.drop i)
  | _, _, 0, h => h
  | _, _, _ + 1, .nil => .nil
  | _, _, i + 1, .cons _ h => paired_drop i h
theorem paired_take {α β : Type} {F : α → β → Prop} : ∀ {l : List α} {m : List β} (i : Nat), Paired F l m → Paired F (l.take i) (m.take i)
  | _, _, 0, _ => .nil
  | _, _, _ + 1, .nil => .nil
  | _, _, i + 1, .cons a h => .cons a (paired_take i h)
theorem paired_app {α β : Type} {F : α → β → Prop} : ∀ {l l' : List α} {m m' : List β}, Paired F l m → Paired F l' m' → Paired F (l ++ l') (m ++ m')
  | _, _, _, _, .nil, h => h
  | _, _, _, _, .cons a h, h' => .cons a (paired_app h h')
theorem paired_rev {α β : Type} {F : α → β → Prop} : ∀ {l : List α} {m : List β}, Paired F l m → Paired F l.reverse m.reverse
  | _, _, .nil => .nil
  | _, _, .cons a h => by
    rw [List.reverse_cons, List.reverse_cons]
    exact paired_app (paired_rev h) (.cons a .nil)
def cutL {α : Type} (xs : List α) (lo hi : Option Int) : List α := (xs.drop (HT.sIx xs.length 0 lo)).take (HT.sIx xs.length xs.length hi - HT.sIx xs.length 0 lo)
theorem sIx_all (n : Nat) (h : HT.sIx n 0 none = 0 ∧ HT.sIx n n none = n) : True := trivial
def rCatTT : R2 := fun x y H Q => ∃ bs cs, TT H x bs ∧ TT H y cs ∧ bs.length + cs.length ≤ sizeLine ∧ ∀ v H', Same H H' → TT H' v (bs ++ cs) → Q v H'
theorem op_catTT {X : Cx} : OpR X (binaryOp .Add) rCatTT := by
  intro pins s σ H x y v u Q I rx ry h
  obtain ⟨bs, cs, ⟨a, ts, rfl, ha, pa⟩, ⟨b, us, rfl, hb, pb⟩, hz, q⟩ := h
  have la : ts.length = bs.length := pa.length
  have lb : us.length = cs.length := pb.length
  refine op_catA pins s σ H _ _ v u Q I rx ry ⟨a, b, ts, us, rfl, rfl, .inl (.inl ha), .inl (.inl hb), by omega, fun e => ?_, fun _ e => ?_, fun _ _ p np => ?_⟩
  · refine q _ H (Same.refl _) ⟨b, us, rfl, hb, ?_⟩
    subst e
    cases pa
    exact pb
  · refine q _ H (Same.refl _) ⟨a, ts, rfl, ha, ?_⟩
    subst e
    cases pb
    rw [List.append_nil]
    exact pa
  · have s1 := same_upd (o := .tup (ts ++ us)) np
    exact q _ _ s1 ⟨p, _, rfl, upd_same, paired_app (Paired.mapP pa fun _ _ h => h.same s1) (Paired.mapP pb fun _ _ h => h.same s1)⟩
def rSlTT : V → Option Int → Option Int → Hp → VK → Prop := fun x lo hi H Q => ∃ bs, TT H x bs ∧ ∀ v H', Same H H' → TT H' v (cutL bs lo hi) → Q v H'
theorem sl_TT {X : Cx} : SlR X rSlTT := by
  intro pins s σ H x v vl vu lo hi sl Q I rx hs pl pu h
  obtain ⟨bs, ⟨a, ts, rfl, ha, pa⟩, q⟩ := h
  have la : ts.length = bs.length := pa.length
  refine sl_tupA pins s σ H _ v vl vu lo hi sl Q I rx hs pl pu ⟨a, ts, rfl, .inl (.inl ha), fun e => ?_, fun _ p np => ?_⟩
  · refine q _ H (Same.refl _) ⟨a, ts, rfl, ha, ?_⟩
    unfold cutL
    rw [← la, e.1, e.2, la]
    show Paired (TP H) ts ((bs.drop 0).take (bs.length - 0))
    rw [List.drop_zero, Nat.sub_zero, List.take_length]
    exact pa
  · have s1 := same_upd (o := .tup (cutV ts lo hi)) np
    refine q _ _ s1 ⟨p, _, rfl, upd_same, ?_⟩
    unfold cutL cutV
    rw [← la]
    exact paired_take _ (paired_drop _ (Paired.mapP pa fun _ _ h => h.same s1))
theorem flat_le {c : Nat} : ∀ {bs : List (List Int)}, (∀ b ∈ bs, b.length ≤ c) → bs.flatten.length ≤ c * bs.length
  | [], _ => Nat.zero_le _
  | b :: bs, h => by
    rw [List.flatten_cons, List.length_append, List.length_cons, Nat.mul_succ]
    have := flat_le (bs := bs) fun b hb => h b (List.mem_cons_of_mem _ hb)
    have := h b List.mem_cons_self
    omega
theorem len_flat : ∀ {bs : List (List Int)}, (∀ b ∈ bs, b ≠ []) → bs.length ≤ bs.flatten.length
  | [], _ => Nat.le_refl _
  | b :: bs, h => by
    rw [List.flatten_cons, List.length_append, List.length_cons]
    have := len_flat (bs := bs) fun b hb => h b (List.mem_cons_of_mem _ hb)
    have := List.length_pos_iff.mpr (h b List.mem_cons_self)
    omega
/-- few blocks, each of few points -/
def Few (c : Nat) (bs : List (List Int)) : Prop := bs.length ≤ c ∧ ∀ b ∈ bs, b.length ≤ 13
theorem Few.ok {n m : Int} {bs : List (List Int)} (h : Few 40 bs) (hn : n.natAbs ≤ 1000) (hm : m.natAbs ≤ 1000) : DgOk n m bs := by
  have := flat_le h.2
  exact ⟨hn, hm, by have := h.1; omega, by have := h.1; omega⟩
theorem Few.cut {c : Nat} {bs : List (List Int)} (h : Few c bs) (i j : Nat) : Few c ((bs.drop i).take j) :=
  ⟨by have := h.1; rw [List.length_take, List.length_drop]; omega, fun b hb => h.2 b (List.mem_of_mem_drop (List.mem_of_mem_take hb))⟩
theorem Few.app {c d : Nat} {bs cs : List (List Int)} (h : Few c bs) (g : Few d cs) : Few (c + d) (bs ++ cs) :=
  ⟨by have := h.1; have := g.1; rw [List.length_append]; omega, fun b hb => (List.mem_append.mp hb).elim (h.2 b) (g.2 b)⟩
theorem Few.more {c d : Nat} {bs : List (List Int)} (h : Few c bs) (hd : c ≤ d) : Few d bs := ⟨Nat.le_trans h.1 hd, h.2⟩
theorem IsDg.few {n m : Int} {bs : List (List Int)} (h : IsDg n m bs) : Few 12 bs := by
  have hs := siz_iff.mp h.sz
  have e := h.pm.length_eq
  rw [ixs_len] at e
  have l1 := len_flat h.ne
  refine ⟨by omega, fun b hb => ?_⟩
  have := mem_len hb
  omega

/-! ### families -/
def strandB (n : Int) (b : List Int) : Bool := decide (b.length = 2) && decide (co b 0 < n ∧ n ≤ co b 1)
def sizeOk (z : Str) (k : Nat) : Bool := if z = "pairs" then decide (k = 2) else if z = "lonepairs" then decide (k ≤ 2) else if z = "even" then decide (k % 2 = 0) else true
def blockOk (z : Str) (n : Int) (b : List Int) : Bool := if z = "threads" then strandB n b else if z = "loose" then decide (b.length = 1) || strandB n b else sizeOk z b.length
def inFam (z : Str) (n : Int) (bs : List (List Int)) : Bool := bs.all (blockOk z n)
theorem inV_str (z : Str) : ∀ l : List Str, inV (.str z) (l.map V.str) = decide (z ∈ l)
  | [] => rfl
  | x :: l => by
    show (eqV (.str x) (.str z) || inV (.str z) (l.map V.str)) = _
    rw [inV_str z l]
    have e : eqV (.str x) (.str z) = decide (x = z) := by
      by_cases c : x = z <;> simp [eqV, c]
    rw [e]
    by_cases c : x = z
    · rw [decide_eq_true c, decide_eq_true (List.mem_cons.mpr (.inl c.symm))]
      rfl
    · rw [decide_eq_false c, Bool.false_or]
      refine decide_eq_decide.mpr ⟨fun z => List.mem_cons_of_mem _ z, fun z => (List.mem_cons.mp z).resolve_left fun z => c z.symm⟩
theorem dec_int {k : Nat} {c : Nat} : decide (V.int (k : Int) = V.int (c : Int)) = decide (k = c) := decide_eq_decide.mpr ⟨fun h => by have := V.int.inj h; omega, fun h => by rw [h]⟩

theorem TP.butL {H H' : Hp} {r : Addr} {ys : List V} {v : V} {z : List Int} (hr : H r = some (.lst ys)) (s : SameBut r H H') (h : TP H v z) : TP H' v z := by
  obtain ⟨a, rfl, h⟩ := h
  exact ⟨a, rfl, s _ _ (ne_of h hr (fun z => nomatch z)) h⟩
theorem TT.butL {H H' : Hp} {r : Addr} {ys : List V} {v : V} {bs : List (List Int)} (hr : H r = some (.lst ys)) (s : SameBut r H H') (h : TT H v bs) : TT H' v bs := by
  obtain ⟨a, ts, rfl, h, pr⟩ := h
  exact ⟨a, ts, rfl, s _ _ (ne_of h hr (fun z => nomatch z)) h, Paired.mapP pr fun _ _ h => h.butL hr s⟩
theorem DGv.butL {H H' : Hp} {r : Addr} {ys : List V} {v : V} {n m : Int} {bs : List (List Int)} (hr : H r = some (.lst ys)) (s : SameBut r H H') (h : DGv H v n m bs) : DGv H' v n m bs := by
  obtain ⟨t, vb, rfl, h, tt⟩ := h
  exact ⟨t, vb, rfl, s _ _ (ne_of h hr (fun z => nomatch z)) h, tt.butL hr s⟩
/-- a diagram with these marks -/
def DgAt (H : Hp) (u : V) (n m : Int) (l : List Int) : Prop := DGv H u n m (blocksOf l) ∧ siz n m = true ∧ (l.length : Int) = n + m
theorem DgAt.dg {H : Hp} {u : V} {n m : Int} {l : List Int} (h : DgAt H u n m l) : IsDg n m (blocksOf l) := isDg_blocks h.2.1 h.2.2
theorem DgAt.ok {H : Hp} {u : V} {n m : Int} {l : List Int} (h : DgAt H u n m l) : DgOk n m (blocksOf l) := by
  have := siz_iff.mp h.2.1
  exact (h.dg.few.more (by decide)).ok (by omega) (by omega)
theorem DgAt.same {H H' : Hp} {u : V} {n m : Int} {l : List Int} (s : Same H H') (h : DgAt H u n m l) : DgAt H' u n m l := ⟨h.1.same s, h.2⟩
theorem DgAt.butL {H H' : Hp} {r : Addr} {ys : List V} {u : V} {n m : Int} {l : List Int} (hr : H r = some (.lst ys)) (s : SameBut r H H') (h : DgAt H u n m l) : DgAt H' u n m l := ⟨h.1.butL hr s, h.2⟩
theorem DgAt.ix {H : Hp} {t : Addr} {n m : Int} {l : List Int} (h : DgAt H (.ref t) n m l) : ∃ vb, H t = some (.tup [.int n, .int m, vb]) := by
  obtain ⟨⟨t', vb, e, h, _⟩, _⟩ := h
  obtain rfl := V.ref.inj e
  exact ⟨vb, h⟩
/-- the answer of a comparison is not computed -/
theorem bl_ex {b : Bool} {R : Bool → Prop} (h : R b) : ∃ k, V.bl b = V.bl k ∧ R k := ⟨b, rfl, h⟩
theorem smL_dL {z : List Int} {B : Nat} (h : ∀ x ∈ z, x.natAbs < 2 ^ 200) (hB : z.length ≤ B) : SmL 1 (1923 * B + 3) (dL z) := by
  have e := smL_list (ds := z.map PyData.int) (n := 0) (k := 1921) fun D hD => by
    obtain ⟨a, ha, rfl⟩ := List.mem_map.mp hD
    exact smL_int (h a ha)
  rw [List.length_map] at e
  exact e.more (by show 1923 * z.length + 3 ≤ 1923 * B + 3; omega)
theorem labL_mem {bs : List (List Int)} {N : Nat} : ∀ x ∈ labL bs N, 0 ≤ x ∧ x ≤ (bs.length : Int) := by
  have run : ∀ (bs : List (List Int)) (k : Nat) (ms : List Int) (B : Int), ((k + bs.length : Nat) : Int) ≤ B → (∀ x ∈ ms, 0 ≤ x ∧ x ≤ B) → ∀ x ∈ labFrom bs k ms, 0 ≤ x ∧ x ≤ B := by
    intro bs
    induction bs with
    | nil => exact fun _ _ _ _ h => h
    | cons b bs ih =>
      intro k ms B hk h
      rw [List.length_cons] at hk
      refine ih (k + 1) _ B (by omega) ?_
      clear ih
      induction b generalizing ms with
      | nil => exact h
      | cons p b ih2 =>
        refine ih2 _ fun x hx => ?_
        rcases List.mem_or_eq_of_mem_set hx with hx | rfl
        · exact h x hx
        · omega
  exact run bs 0 _ _ (by omega) fun x hx => by
    have := List.eq_of_mem_replicate hx
    omega
theorem smL_lab {n m : Int} {bs : List (List Int)} (h : IsDg n m bs) : SmL 1 25000 (dL (labL bs (n + m).toNat)) := by
  have hs := siz_iff.mp h.sz
  have f := h.few.1
  refine (smL_dL (B := 12) (fun x hx => ?_) (by rw [labL_len]; omega)).more (by decide)
  have := labL_mem x hx
  have : (12 : Nat) < 2 ^ 200 := by decide
  omega
theorem smL_dg {n m : Int} {bs : List (List Int)} (h : IsDg n m bs) : SmL 3 1000000 (dDG n m bs) := by
  have hs := siz_iff.mp h.sz
  have f := h.few
  have big : (12 : Nat) < 2 ^ 200 := by decide
  have e1 := smL_tuple (n := 1) (k := 25002) (ds := bs.map dT) fun D hD => by
    obtain ⟨b, hb, rfl⟩ := List.mem_map.mp hD
    refine (dT_small (z := b) fun k => ?_).more (by have := f.2 b hb; omega)
    rcases Nat.lt_or_ge k b.length with c | c
    · have := dg_pt h hb (co_mem c)
      omega
    · rw [co_ge c]
      decide
  rw [List.length_map] at e1
  have e1 : SmL 2 310000 (dTT bs) := e1.more (by have := f.1; omega)
  have e2 := smL_tuple (n := 2) (k := 310000) (ds := [.int n, .int m, dTT bs]) fun D hD => by
    have up : ∀ {x : Int}, x.natAbs < 2 ^ 200 → SmL 2 310000 (.int x) := fun hx => by
      obtain ⟨h1, h2, h3, h4⟩ := smL_int hx
      exact ⟨h1, Nat.le_trans h2 (by decide), h3, Nat.le_trans h4 (by decide)⟩
    rcases List.mem_cons.mp hD with rfl | hD
    · exact up (by omega)
    · rcases List.mem_cons.mp hD with rfl | hD
      · exact up (by omega)
      · rw [List.mem_singleton.mp hD]
        exact e1
  exact e2.more (by show (310000 + 2) * 3 + 3 ≤ 1000000; decide)
theorem few_pow {x : Int} (h : 0 ≤ x ∧ x ≤ 1000) : x.natAbs < 2 ^ 64 := by
  have : (1000 : Nat) < 2 ^ 64 := by decide
  omega

/-! ### tables in lists of lists -/
/-- a new list at L of new lists, no two of them the same -/
structure TabH (H0 H : Hp) (L : Addr) (rows : List (List V)) : Prop where
  fr : H0 L = none
  ex : ∃ us, H L = some (.lst us) ∧ us.Nodup ∧ Paired (fun v r => ∃ a, v = .ref a ∧ a ≠ L ∧ H0 a = none ∧ H a = some (.lst r)) us rows
theorem TabH.same {H0 H H' : Hp} {L : Addr} {rows : List (List V)} (s : Same H H') (t : TabH H0 H L rows) : TabH H0 H' L rows := by
  obtain ⟨f, us, hL, nd, pr⟩ := t
  refine ⟨f, us, s _ _ hL, nd, Paired.mapP pr fun _ _ h => ?_⟩
  obtain ⟨a, e, h1, h2, h3⟩ := h
  exact ⟨a, e, h1, h2, s _ _ h3⟩
theorem TabH.from {H0 H1 H : Hp} {L : Addr} {rows : List (List V)} (s : Same H0 H1) (t : TabH H1 H L rows) : TabH H0 H L rows := by
  obtain ⟨f, us, hL, nd, pr⟩ := t
  refine ⟨none_back s f, us, hL, nd, Paired.mapP pr fun _ _ h => ?_⟩
  obtain ⟨a, e, h1, h2, h3⟩ := h
  exact ⟨a, e, h1, none_back s h2, h3⟩
theorem paired_set {α β : Type} {F G : α → β → Prop} : ∀ {us : List α} {rows : List β} {i : Nat} {v : α} {r : β}, Paired F us rows → us[i]? = some v → us.Nodup → G v r → (∀ u b, u ≠ v → F u b → G u b) → Paired G us (rows.set i r)
  | _, _, _, _, _, .nil, e, _, _, _ => nomatch e
  | _ :: us, _ :: rows, 0, _, r, .cons f t, e, nd, g, k => by
    obtain rfl := Option.some.inj e
    obtain ⟨n1, _⟩ := List.nodup_cons.mp nd
    have : ∀ {us : List _} {rows : List _}, Paired F us rows → (∀ u ∈ us, u ≠ _) → Paired G us rows := fun {us rows} pr => by
      intro hu
      induction pr with
      | nil => exact .nil
      | cons f t ih => exact .cons (k _ _ (hu _ List.mem_cons_self) f) (ih fun u h => hu u (List.mem_cons_of_mem _ h))
    exact .cons g (this t fun u hu e => n1 (e ▸ hu))
  | u :: us, _ :: rows, i + 1, v, r, .cons f t, e, nd, g, k => by
    obtain ⟨n1, n2⟩ := List.nodup_cons.mp nd
    have e : us[i]? = some v := e
    exact .cons (k _ _ (fun z => n1 (z ▸ List.mem_of_getElem? e)) f) (paired_set t e n2 g k)
theorem TabH.set {H0 H : Hp} {L : Addr} {rows : List (List V)} (t : TabH H0 H L rows) {us : List V} (hL : H L = some (.lst us)) {i : Nat} {a : Addr} (e : us[i]? = some (.ref a)) (r : List V) : TabH H0 (upd H a (.lst r)) L (rows.set i r) := by
  obtain ⟨f, us', hL', nd, pr⟩ := t
  obtain rfl : us' = us := HO.lst.inj (Option.some.inj (hL'.symm.trans hL))
  obtain ⟨_, _, a', e', h1, h2, _⟩ := paired_get pr e
  obtain rfl := V.ref.inj e'
  refine ⟨f, us', by rw [upd_ne (Ne.symm h1)]; exact hL, nd, paired_set pr e nd ⟨a, rfl, h1, h2, upd_same⟩ fun u b ne h => ?_⟩
  obtain ⟨c, rfl, g1, g2, g3⟩ := h
  exact ⟨c, rfl, g1, g2, by rw [upd_ne fun z => ne (by rw [z])]; exact g3⟩
/-- what does not lie in the table stays -/
theorem TabH.out {H0 H : Hp} {L : Addr} {rows : List (List V)} (t : TabH H0 H L rows) {us : List V} (hL : H L = some (.lst us)) {i : Nat} {a : Addr} (e : us[i]? = some (.ref a)) (r : List V) : ∀ b o, H0 b = some o → H b = some o → upd H a (.lst r) b = some o := by
  obtain ⟨f, us', hL', nd, pr⟩ := t
  obtain rfl : us' = us := HO.lst.inj (Option.some.inj (hL'.symm.trans hL))
  obtain ⟨_, _, a', e', h1, h2, _⟩ := paired_get pr e
  obtain rfl := V.ref.inj e'
  intro b o e0 e1
  rw [upd_ne fun z => by rw [z, h2] at e0; cases e0]
  exact e1
theorem TabH.but {H0 H H' : Hp} {D L : Addr} {rows : List (List V)} {o : HO} (hD : H0 D = some o) (s : SameBut D H H') (t : TabH H0 H L rows) : TabH H0 H' L rows := by
  obtain ⟨f, us, hL, nd, pr⟩ := t
  have n1 : ∀ {a : Addr}, H0 a = none → a ≠ D := fun {a} h z => by rw [z, hD] at h; exact nomatch h
  refine ⟨f, us, s _ _ (n1 f) hL, nd, Paired.mapP pr fun _ _ h => ?_⟩
  obtain ⟨a, e, h1, h2, h3⟩ := h
  exact ⟨a, e, h1, h2, s _ _ (n1 h2) h3⟩
theorem TabH.new {H0 H : Hp} {L : Addr} (h0 : H0 L = none) (h : H L = some (.lst [])) : TabH H0 H L [] := ⟨h0, [], h, List.nodup_nil, .nil⟩
/-- a new row q at the end -/
theorem TabH.push {H0 H : Hp} {L q : Addr} {rows : List (List V)} {us : List V} {r : List V} (t : TabH H0 H L rows) (hL : H L = some (.lst us)) (nq : H q = none) (h0 : H0 q = none) :
    TabH H0 (upd (upd H q (.lst r)) L (.lst (us ++ [.ref q]))) L (rows ++ [r]) := by
  obtain ⟨f, us', hL', nd, pr⟩ := t
  obtain rfl : us' = us := HO.lst.inj (Option.some.inj (hL'.symm.trans hL))
  have qL : q ≠ L := fun z => by rw [z, hL] at nq; exact nomatch nq
  refine ⟨f, us' ++ [.ref q], upd_same, ?_, ?_⟩
  · rw [List.nodup_append]
    refine ⟨nd, List.nodup_cons.mpr ⟨List.not_mem_nil, List.nodup_nil⟩, fun a ha b hb e => ?_⟩
    rw [List.mem_singleton.mp hb] at e
    rw [e] at ha
    obtain ⟨i, hi, e⟩ := List.mem_iff_getElem.mp ha
    obtain ⟨_, _, a', e', _, _, h⟩ := paired_get pr (show us'[i]? = some (.ref q) by rw [List.getElem?_eq_getElem hi, e])
    obtain rfl := V.ref.inj e'
    rw [nq] at h
    exact nomatch h
  · refine paired_add ⟨q, rfl, qL, h0, by rw [upd_ne qL, upd_same]⟩ (Paired.mapP pr fun _ _ h => ?_)
    obtain ⟨a, e, h1, h2, h3⟩ := h
    exact ⟨a, e, h1, h2, by rw [upd_ne h1]; exact same_upd nq _ _ h3⟩
/-- a list that is not at D -/
def RowD (D : Addr) (H : Hp) (v : V) (z : List Int) : Prop := ∃ a, v = .ref a ∧ a ≠ D ∧ H a = some (.lst (z.map V.int))
theorem rowD_keep {D : Addr} {H H' : Hp} {x : V} {z : List Int} (sb : SameBut D H H') (h : RowD D H x z) : RowD D H' x z := by
  obtain ⟨a, rfl, ne, ha⟩ := h
  exact ⟨a, rfl, ne, sb _ _ ne ha⟩

theorem posOf_take {marks : List Int} {i : Nat} (h : i < marks.length) (v : Int) : posOf (marks.take (i + 1)) v = if co marks i = v then posOf (marks.take i) v ++ [(i : Int)] else posOf (marks.take i) v := by
  have l1 : (marks.take (i + 1)).length = i + 1 := by rw [List.length_take]; omega
  have l0 : (marks.take i).length = i := by rw [List.length_take]; omega
  have c1 : ∀ j, j < i → co (marks.take (i + 1)) j = co (marks.take i) j := fun j hj => by
    unfold co
    rw [List.getD_eq_getElem?_getD, List.getD_eq_getElem?_getD, List.getElem?_take_of_lt (by omega), List.getElem?_take_of_lt hj]
  have c2 : co (marks.take (i + 1)) i = co marks i := by
    unfold co
    rw [List.getD_eq_getElem?_getD, List.getD_eq_getElem?_getD, List.getElem?_take_of_lt (by omega)]
  unfold posOf
  rw [l1, l0, List.range_succ, List.filter_append, List.map_append]
  have e : (List.range i).filter (fun j => decide (co (marks.take (i + 1)) j = v)) = (List.range i).filter fun j => decide (co (marks.take i) j = v) :=
    List.filter_congr fun j hj => by rw [c1 j (List.mem_range.mp hj)]
  rw [e, List.filter_cons, c2]
  by_cases c : co marks i = v
  · rw [if_pos c, decide_eq_true c]
    rfl
  · rw [if_neg c, decide_eq_false c]
    exact List.append_nil _
theorem posOf_none {marks : List Int} {v : Int} (h : v ∉ marks) : posOf marks v = [] := by
  refine List.eq_nil_iff_forall_not_mem.mpr fun x hx => ?_
  obtain ⟨i, _, hi, e⟩ := mem_posOf.mp hx
  exact h (e ▸ co_mem hi)
/-- a dict by integers -/
def KR (H : Hp) (f : Int → List Int) (kv : Key × V) (u : Int) : Prop := kv.1 = Sum.inl u ∧ TP H kv.2 (f u)
theorem kr_get {H : Hp} {f : Int → List Int} {v : Int} : ∀ {kvs : List (Key × V)} {vs : List Int}, Paired (KR H f) kvs vs → (v ∈ vs → ∃ w, valV kvs (Sum.inl v : Key) = some w ∧ TP H w (f v)) ∧ (v ∉ vs → valV kvs (Sum.inl v : Key) = none)
  | _, _, .nil => ⟨fun h => (nomatch h), fun _ => rfl⟩
  | kv :: kvs, u :: vs, .cons ⟨e, t⟩ pr => by
    obtain ⟨a, b⟩ := kr_get (v := v) pr
    by_cases c : u = v
    · refine ⟨fun _ => ⟨kv.2, valV_pos (by rw [e, c]), by rw [← c]; exact t⟩, fun h => absurd (List.mem_cons.mpr (.inl c.symm)) h⟩
    · have ne : ¬ kv.1 = (Sum.inl v : Key) := fun z => c (Sum.inl.inj (e.symm.trans z))
      refine ⟨fun h => ?_, fun h => ?_⟩
      · rw [valV_neg ne]
        exact a ((List.mem_cons.mp h).resolve_left fun z => c z.symm)
      · rw [valV_neg ne]
        exact b fun z => h (List.mem_cons_of_mem _ z)
theorem kr_map {H : Hp} {f g : Int → List Int} {v : Int} {w : V} (hw : TP H w (g v)) (hg : ∀ u, u ≠ v → g u = f u) : ∀ {kvs : List (Key × V)} {vs : List Int}, Paired (KR H f) kvs vs → Paired (KR H g) (kvs.map fun kv => if kv.1 = (Sum.inl v : Key) then (kv.1, w) else kv) vs
  | _, _, .nil => .nil
  | kv :: kvs, u :: vs, .cons ⟨e, t⟩ pr => by
    rw [List.map_cons]
    refine .cons ?_ (kr_map hw hg pr)
    by_cases c : u = v
    · rw [if_pos (by rw [e, c])]
      exact ⟨e, by rw [c]; exact hw⟩
    · rw [if_neg fun z => c (Sum.inl.inj (e.symm.trans z))]
      exact ⟨e, by rw [hg u c]; exact t⟩
theorem kr_put {H : Hp} {f g : Int → List Int} {v : Int} {w : V} {kvs : List (Key × V)} {vs : List Int} (pr : Paired (KR H f) kvs vs) (hw : TP H w (g v)) (hg : ∀ u, u ≠ v → g u = f u) :
    Paired (KR H g) (putK kvs (Sum.inl v : Key) w) (if v ∈ vs then vs else vs ++ [v]) := by
  obtain ⟨a, b⟩ := kr_get (v := v) pr
  by_cases c : v ∈ vs
  · rw [if_pos c]
    obtain ⟨x, hx, _⟩ := a c
    unfold putK
    rw [if_pos (by rw [valV_any, hx]; rfl)]
    exact kr_map hw hg pr
  · rw [if_neg c, putK_new _ (b c)]
    refine paired_snoc ⟨rfl, hw⟩ ?_
    have e : (kvs.map fun kv => if kv.1 = (Sum.inl v : Key) then (kv.1, w) else kv) = kvs := by
      conv => rhs; rw [← List.map_id kvs]
      refine List.map_congr_left fun kv hkv => ?_
      have : (kvs.any fun kv => decide (kv.1 = (Sum.inl v : Key))) = false := by rw [valV_any, b c]; rfl
      have h1 := List.any_eq_false.mp this kv hkv
      rw [if_neg fun z => h1 (decide_eq_true z)]
      rfl
    have := kr_map hw hg pr
    rwa [e] at this
theorem kr_vals {H : Hp} {f : Int → List Int} : ∀ {kvs : List (Key × V)} {vs : List Int}, Paired (KR H f) kvs vs → Paired (TP H) (kvs.map (·.2)) (vs.map f)
  | _, _, .nil => .nil
  | _, _, .cons ⟨_, t⟩ pr => .cons t (kr_vals pr)
def rCatC : R2 := fun x y H Q => ∃ a b xs ys, x = .ref a ∧ y = .ref b ∧ H a = some (.tup xs) ∧ H b = some (.tup ys) ∧ xs.length + ys.length ≤ sizeLine ∧ ∀ p H', Same H H' → H' p = some (.tup (xs ++ ys)) → Q (.ref p) H'
theorem op_catC {X : Cx} : OpR X (binaryOp .Add) rCatC := by
  intro pins s σ H x y v u Q I rx ry h
  obtain ⟨a, b, xs, ys, rfl, rfl, ha, hb, hz, q⟩ := h
  refine op_catA pins s σ H _ _ v u Q I rx ry ⟨a, b, xs, ys, rfl, rfl, .inl (.inl ha), .inl (.inl hb), hz, fun e => ?_, fun _ e => ?_, fun _ _ p np => ?_⟩
  · exact q b H (Same.refl _) (by rw [e, List.nil_append]; exact hb)
  · exact q a H (Same.refl _) (by rw [e, List.append_nil]; exact ha)
  · exact q p _ (same_upd np) upd_same

/-! ### _law_marked, the marks in a tuple -/
theorem call_tuple_ofKM {X : Cx} {K : PySem.W.Frag} (hK : X.K = K) : CallR X (.type "tuple") (fun xs H Q => ∃ p ys, xs = [.ref p] ∧ ((SqL K H p ys ∧ ∀ l, H l = none → Q (.ref l) (upd H l (.tup ys))) ∨ (SqT K H p ys ∧ Q (.ref p) H))) := by
  subst hK
  exact call_tuple_of
theorem inV_intM {p : Int} : ∀ l : List Int, inV (.int p) (l.map V.int) = decide (p ∈ l)
  | [] => rfl
  | x :: l => by
    show (eqV (.int x) (.int p) || inV (.int p) (l.map V.int)) = _
    rw [inV_intM l]
    have e : eqV (.int x) (.int p) = decide (x = p) := by
      by_cases c : x = p <;> simp [eqV, c]
    rw [e]
    by_cases c : x = p
    · rw [decide_eq_true c, decide_eq_true (List.mem_cons.mpr (.inl c.symm))]
      rfl
    · rw [decide_eq_false c, Bool.false_or]
      refine decide_eq_decide.mpr ⟨fun z => List.mem_cons_of_mem _ z, fun z => (List.mem_cons.mp z).resolve_left fun z => c z.symm⟩
theorem flat_intM : ∀ l : List Int, (l.map V.int).all flatV = true
  | [] => rfl
  | _ :: l => by
    rw [List.map_cons, List.all_cons, flat_intM l]
    rfl
section
variable {P : Program} {w : World} {K : PySem.W.Frag} {mg : Str → Option Value} {base : Heap}
def spMarked (K : PySem.W.Frag) : Sp := fun vs H Q _ => ∃ (n m : Int) (a : Addr) (marks : List Int), vs = [.int n, .int m, .ref a] ∧ SqT K H a (marks.map V.int) ∧ marks.length ≤ 1000 ∧ (marks.length : Int) = n + m ∧
  ∀ v H', Same H H' → (∀ t, v = .ref t → H t = none) → DGv H' v n m (blocksOf marks) → Q v H'
theorem ok_law_marked {f : Addr} {fd : FuncData} (F : Fun K "_law_marked" "_law_marked" s_law_marked f fd) (z_tuple : mg "tuple" = none) (z_range : mg "range" = none) (z_len : mg "len" = none) :
    FnOk P w K mg base CX0 1 f fd ["n", "m", "marks"] (spMarked K) := by
  refine F.ok sc_law_marked (fun vs H Q E h => ?_) (fun cdv A outer s H vs Q E hr h => ?_)
  · obtain ⟨n, m, a, marks, rfl, _⟩ := h
    rfl
  · obtain ⟨n, m, a, marks, rfl, ha, hl, hN, q⟩ := h
    refine ⟨_, (pss_cons (ps_set (i := 3) sc_law_marked.nd rfl (.inl rfl) (pe_lst pa_nil))
  (pss_cons (ps_set (i := 4) sc_law_marked.nd rfl (.inl rfl) (pe_lst pa_nil))
  (pss_cons (ps_for PassesOwn.never rfl (pi_range1 rfl z_range (pa_cons (pe_callB call_len_seq (by rfl) z_len boot_len (pa_cons (pv 2) pa_nil)) pa_nil)) (pg_name (i := 5) sc_law_marked.nd rfl (.inl rfl)) (Evl.pss_cut (ps_if (pt_cmpR op_notIn_seq (pe_ix ix_tup (pv 2) (pv 5) (fun _ _ => rfl)) (pv 3) (by with_unfolding_all rfl)) (pss_cons (ps_expr (pe_bm PySem.F.plainAttrs_list PySem.F.slot_list_append PySem.F.type_list_append mt_append (pv 3) (pa_cons (pe_ix ix_tup (pv 2) (pv 5) (fun _ _ => rfl)) pa_nil)))
  (pss_one (ps_expr (pe_bm PySem.F.plainAttrs_list PySem.F.slot_list_append PySem.F.type_list_append mt_append (pv 4) (pa_cons (pe_lst pa_nil) pa_nil))))) pss_nil)
  (pss_one (ps_expr (pe_bm PySem.F.plainAttrs_list PySem.F.slot_list_append PySem.F.type_list_append mt_append (pe_ix ix_list (pv 4) (pe_bm PySem.F.plainAttrs_list PySem.F.slot_list_index PySem.F.type_list_index mt_index (pv 3) (pa_cons (pe_ix ix_tup (pv 2) (pv 5) (fun _ _ => rfl)) pa_nil)) (fun _ _ => rfl)) (pa_cons (pv 5) pa_nil))))))
  (pss_one (ps_ret (pe_tup (pa_cons (pv 0) (pa_cons (pv 1) (pa_cons (pe_callTy call_tuple_of (by rfl) z_tuple boot_tuple (pa_cons (pe_lc (own := [("block", 6)]) rfl sc_law_marked.nd (pi_list (pv 4)) (blkOk_by (N := ["n", "m", "marks", "known", "blocks", "at", "block"]) (sc := defScope s_law_marked) (by first | decide +kernel | rfl)) (fun _ _ _ _ _ => (pg_name (i := 6) sc_law_marked.nd rfl (.inl rfl))) (fun _ _ _ _ _ => pts_nil) (fun _ _ _ _ _ => (pe_callTy (call_tuple_ofKM (K := K) rfl) (by rfl) z_tuple boot_tuple (pa_cons (pv 6) pa_nil)))) pa_nil)) pa_nil))))))))), ?_⟩
    have szl : 20000 ≤ sizeLine := by decide
    refine ⟨(by show 0 ≤ sizeLine; decide), fun D nD => ⟨(by show 0 ≤ sizeLine; decide), fun B nB => ?_⟩⟩
    have s1 := same_upd (o := .lst []) nD
    have s2 := same_upd (o := .lst []) nB
    have h1D : upd H D (.lst []) D = some (.lst []) := upd_same
    have hD2 : upd (upd H D (.lst [])) B (.lst []) D = some (.lst []) := s2 _ _ h1D
    have tb0 : TabH (upd H D (.lst [])) (upd (upd H D (.lst [])) B (.lst [])) B [] := .new nB upd_same
    have DB : B ≠ D := fun z => by rw [z, h1D] at nB; exact nomatch nB
    have s12 : Same H (upd (upd H D (.lst [])) B (.lst [])) := Same.trans s1 s2
    have hS1 : ∀ b o, upd H D (.lst []) b = some o → b = D ∨ H b = some o := fun b o e => by
      by_cases c : b = D
      · exact .inl c
      · rw [upd_ne c] at e
        exact .inr e
    generalize upd H D (.lst []) = H1 at *
    generalize upd H1 B (.lst []) = H2 at *
    refine ⟨_, rfl, a, marks.map V.int, rfl, .inr (sqT_same s12 ha), _, rfl, by omega, by rw [List.length_map]; omega, ?_⟩
    rw [List.length_map, show ((marks.length : Nat) : Int).toNat = marks.length from rfl]
    refine for_range (lo := 0) (n := marks.length) (fun k σ H' => ∃ v5 : Option V, σ = [some (.int n), some (.int m), some (.ref a), some (.ref D), some (.ref B), v5, none] ∧ Same H H' ∧ H' D = some (.lst ((seenL [] (marks.take k)).map V.int)) ∧
      TabH H1 H' B ((seenL [] (marks.take k)).map fun v => (posOf (marks.take k) v).map V.int)) ⟨none, rfl, s12, hD2, tb0⟩ (fun k σ H3 hk hP => ?_) (fun σ H3 hP => ?_)
    · obtain ⟨v5, rfl, s3, hD, tb⟩ := hP
      have ha3 := sqT_same s3 ha
      have ek : (0 : Int) + (k : Int) = (k : Int) := Int.zero_add _
      rw [ek]
      have ls := seenL_len (marks.take k) []
      rw [List.length_take] at ls
      have ls2 : (seenL [] (marks.take k)).length ≤ 1000 := by
        have : ([] : List Int).length = 0 := rfl
        omega
      obtain ⟨_, us, hB, _, pU⟩ := id tb
      have lus : us.length ≤ 1000 := by rw [pU.length, List.length_map]; exact ls2
      refine ⟨fun σ H' => σ = [some (.int n), some (.int m), some (.ref a), some (.ref D), some (.ref B), some (.int (k : Int)), none] ∧ Same H H' ∧ H' D = some (.lst ((seenL [] (marks.take (k + 1))).map V.int)) ∧
        TabH H1 H' B ((seenL [] (marks.take (k + 1))).map fun v => (posOf (marks.take k) v).map V.int), ?_, ?_⟩
      · refine ⟨_, rfl, _, rfl, a, _, _, _, rfl, rfl, ha3, at_co hk, _, rfl, D, _, rfl, .inl (.inl (.inl hD)), rfl, flat_intM _, _, rfl, ?_⟩
        by_cases c : co marks k ∈ seenL [] (marks.take k)
        · refine if_neg_of (by show ¬ (!inV _ _) = true; rw [inV_intM, decide_eq_true c]; exact Bool.false_ne_true) ⟨rfl, s3, ?_⟩
          rw [take_snoc hk, seenL_snoc, if_pos c]
          exact ⟨hD, tb⟩
        · refine if_pos_of (by show (!inV _ _) = true; rw [inV_intM, decide_eq_false c]; rfl) ?_
          refine ⟨_, rfl, .inl ⟨rfl, _, .inl (.inl hD)⟩, _, rfl, _, rfl, a, _, _, _, rfl, rfl, ha3, at_co hk, D, _, _, rfl, rfl, hD, by rw [List.length_map]; omega, ?_⟩
          have sbD := SameBut.upd (H := H3) (a := D) (o := .lst ((seenL [] (marks.take k)).map V.int ++ [.int (co marks k)]))
          have tb4 := tb.but h1D sbD
          have hB4 := sbD _ _ DB hB
          have hD4 : upd H3 D (.lst ((seenL [] (marks.take k)).map V.int ++ [.int (co marks k)])) D = some (.lst ((seenL [] (marks.take (k + 1))).map V.int)) := by rw [upd_same, take_snoc hk, seenL_snoc, if_neg c, List.map_append]; rfl
          have s4 : Same H (upd H3 D (.lst ((seenL [] (marks.take k)).map V.int ++ [.int (co marks k)]))) := Same.mut s3 nD
          revert tb4 hB4 hD4 s4
          generalize upd H3 D (.lst ((seenL [] (marks.take k)).map V.int ++ [.int (co marks k)])) = H4
          intro tb4 hB4 hD4 s4
          refine ⟨_, rfl, .inl ⟨rfl, _, .inl (.inl hB4)⟩, (by show 0 ≤ sizeLine; decide), fun q1 nq1 => ?_⟩
          have w1 := same_upd (o := .lst []) nq1
          refine ⟨B, _, _, rfl, rfl, w1 _ _ hB4, by omega, rfl, Same.mut (Same.trans s4 w1) (none_back s1 nB), ?_, ?_⟩
          · rw [upd_ne (Ne.symm DB)]
            exact w1 _ _ hD4
          · have n1 : H1 q1 = none := by
              cases e : H1 q1 with
              | none => rfl
              | some o =>
                rcases hS1 _ _ e with z | z
                · rw [z, hD4] at nq1
                  exact nomatch nq1
                · rw [s4 _ _ z] at nq1
                  exact nomatch nq1
            have := tb4.push hB4 nq1 n1 (r := [])
            rw [take_snoc hk, seenL_snoc, if_neg c, List.map_append]
            show TabH H1 _ B (_ ++ [(posOf (marks.take k) (co marks k)).map V.int])
            rw [posOf_none (fun z => c ((seenL_mem _ [] _).mpr (.inr z)))]
            exact this
      clear tb
      rintro σ H4 ⟨rfl, s4, hD4, tb4⟩
      obtain ⟨_, us, hB, _, pU⟩ := id tb4
      have hin : co marks k ∈ seenL [] (marks.take (k + 1)) := (seenL_mem _ [] _).mpr (.inr (by rw [take_snoc hk]; exact List.mem_append_right _ (List.mem_singleton.mpr rfl)))
      have hj := List.idxOf_lt_length_of_mem hin
      have ej := List.getElem_idxOf hj
      have ndS := seenL_nodup (marks.take (k + 1)) [] List.nodup_nil
      obtain ⟨y, ey⟩ : ∃ y, us[(seenL [] (marks.take (k + 1))).idxOf (co marks k)]? = some y := ⟨_, List.getElem?_eq_getElem (by rw [pU.length, List.length_map]; exact hj)⟩
      obtain ⟨r, er, x, rfl, xB, nx, hx⟩ := paired_get pU ey
      rw [List.getElem?_map, List.getElem?_eq_getElem hj, ej] at er
      have er := Option.some.inj er
      dsimp only at er
      subst er
      have lp : (posOf (marks.take k) (co marks k)).length ≤ 1000 := by
        unfold posOf
        rw [List.length_map]
        refine Nat.le_trans (List.length_filter_le _ _) ?_
        rw [List.length_range, List.length_take]
        omega
      refine ⟨_, rfl, _, rfl, .inl ⟨rfl, _, .inl (.inl hD4)⟩, _, rfl, _, rfl, a, _, _, _, rfl, rfl, sqT_same s4 ha, at_co hk, D, _, .int (co marks k), (seenL [] (marks.take (k + 1))).idxOf (co marks k), .int (co marks k), rfl, rfl, .inl (.inl hD4), rfl, flat_intM _, ?_, ?_, fun i z hi hz => ?_, ?_⟩
      · rw [List.getElem?_map, List.getElem?_eq_getElem hj, ej]
        rfl
      · simp [eqV]
      · rw [List.getElem?_map] at hz
        obtain ⟨b, hb, rfl⟩ := Option.map_eq_some_iff.mp hz
        have : b ≠ co marks k := fun e => by
          subst e
          obtain ⟨hi', e2⟩ := List.getElem?_eq_some_iff.mp hb
          have := List.pairwise_iff_getElem.mp ndS i _ hi' hj hi
          rw [e2, ej] at this
          exact this rfl
        simp [eqV, this]
      · refine ⟨B, us, _, .ref x, rfl, rfl, .inl (.inl hB), atI_nat (j := (seenL [] (marks.take (k + 1))).idxOf (co marks k)) ey, ?_⟩
        refine ⟨.inl ⟨rfl, _, .inl (.inl hx)⟩, _, rfl, x, _, _, rfl, rfl, hx, by rw [List.length_map]; omega, ?_⟩
        have nxD : x ≠ D := fun z => by rw [z, h1D] at nx; exact nomatch nx
        have nxH : H x = none := none_back s1 nx
        refine ⟨_, rfl, Same.mut s4 nxH, by rw [upd_ne (Ne.symm nxD)]; exact hD4, ?_⟩
        have := tb4.set hB ey ((posOf (marks.take k) (co marks k)).map V.int ++ [V.int (k : Int)])
        have e : ((seenL [] (marks.take (k + 1))).map fun v => (posOf (marks.take k) v).map V.int).set ((seenL [] (marks.take (k + 1))).idxOf (co marks k)) ((posOf (marks.take k) (co marks k)).map V.int ++ [V.int (k : Int)]) = (seenL [] (marks.take (k + 1))).map fun v => (posOf (marks.take (k + 1)) v).map V.int := by
          refine List.ext_getElem? fun i => ?_
          rw [List.getElem?_set, List.length_map, List.getElem?_map, List.getElem?_map]
          by_cases c : (seenL [] (marks.take (k + 1))).idxOf (co marks k) = i
          · subst c
            rw [if_pos rfl, if_pos hj, List.getElem?_eq_getElem hj, ej]
            show _ = some ((posOf (marks.take (k + 1)) (co marks k)).map V.int)
            rw [posOf_take hk, if_pos rfl, List.map_append]
            rfl
          · rw [if_neg c]
            cases e : (seenL [] (marks.take (k + 1)))[i]? with
            | none => rfl
            | some v =>
              have nv : co marks k ≠ v := fun z => c (by
                obtain ⟨hi, e2⟩ := List.getElem?_eq_some_iff.mp e
                rw [z, ← e2]
                exact List.Nodup.idxOf_getElem ndS i hi)
              show some ((posOf (marks.take k) v).map V.int) = some ((posOf (marks.take (k + 1)) v).map V.int)
              rw [posOf_take hk, if_neg nv]
        rw [e] at this
        exact this
    · obtain ⟨v5, rfl, s3, hD, tb⟩ := hP
      rw [List.take_length] at tb
      obtain ⟨_, us, hB, _, pU⟩ := id tb
      have lus : us.length ≤ 1000 := by
        rw [pU.length, List.length_map]
        have := seenL_len marks []
        have e : ([] : List Int).length = 0 := rfl
        omega
      refine ⟨_, rfl, _, rfl, _, rfl, B, rfl, ⟨_, .inl (.inl hB)⟩, fun L nL => ?_⟩
      have BL : B ≠ L := ne_of_none hB nL
      have kL : ∀ {H' : Hp}, SameBut L H3 H' → Same H3 H' := fun sb b o e => sb b o (ne_of_none e nL) e
      refine lc_list (xs := us) (fun i H' => SameBut L H3 H' ∧ ∃ ts, H' L = some (.lst ts) ∧ Paired (TP H') ts (((seenL [] marks).take i).map (posOf marks))) ⟨SameBut.upd, [], upd_same, .nil⟩ (fun i H' _ hP => .inl (.inl (hP.1 _ _ BL hB))) (fun i x H4 hx hP => ?_) (fun H4 hP => ?_)
      · obtain ⟨sb, ts, hL, pt⟩ := hP
        obtain ⟨r, er, y, rfl, _, _, hy⟩ := paired_get pU hx
        rw [List.getElem?_map] at er
        obtain ⟨v, ev, rfl⟩ := Option.map_eq_some_iff.mp er
        refine ⟨rfl, _, rfl, y, _, rfl, .inl ⟨.inl (.inl (kL sb _ _ hy)), fun t nt => ?_⟩⟩
        have w1 := same_upd (o := .tup ((posOf marks v).map V.int)) nt
        have hL5 := w1 _ _ hL
        have li := (List.getElem?_eq_some_iff.mp hx).1
        refine ⟨ts, hL5, by rw [pt.length, List.length_map, List.length_take]; omega, (sb.trans (Same.but w1)).trans SameBut.upd, _, upd_same, ?_⟩
        rw [List.take_succ, ev, List.map_append]
        exact Paired.mapP (paired_add ⟨t, rfl, upd_same⟩ (Paired.mapP pt fun _ _ h => h.same w1)) fun _ _ h => TP.butL hL5 SameBut.upd h
      · obtain ⟨sb, ts, hL, pt⟩ := hP
        have el : (seenL [] marks).length = us.length := by rw [pU.length, List.length_map]
        rw [← el, List.take_length] at pt
        refine ⟨L, _, rfl, .inl ⟨.inl (.inl hL), fun tb' ntb => ?_⟩⟩
        refine ⟨(by show 3 ≤ sizeLine; decide), fun t nt => ?_⟩
        have q3 := same_upd (o := .tup ts) ntb
        have q4 := same_upd (o := .tup [.int n, .int m, .ref tb']) nt
        have sf := Same.trans q3 q4
        have sA := Same.trans s3 (kL sb)
        exact q (.ref t) _ (Same.trans sA sf) (fun t' e => by cases e; exact none_back (Same.trans sA q3) nt) ⟨t, .ref tb', rfl, upd_same, tb', _, rfl, q4 _ _ upd_same, Paired.mapP pt fun _ _ h => h.same sf⟩
end

section
variable {P : Program} {w : World} {K : PySem.W.Frag} {mg : Str → Option Value} {base : Heap}
/-! ### _law_belongs -/
def spBelongs : Sp := fun vs H Q _ => ∃ (z : Str) (v : V) (n m : Int) (bs : List (List Int)), vs = [.str z, v] ∧ DGv H v n m bs ∧ z ∈ fams ∧ (∀ b ∈ bs, b ≠ []) ∧ Q (.bl (inFam z n bs)) H
theorem ok_law_belongs {f : Addr} {fd : FuncData} (F : Fun K "_law_belongs" "_law_belongs" s_law_belongs f fd) (z_len : mg "len" = none) (z_int : mg "int" = none) :
    FnOk P w K mg base CX0 1 f fd ["family", "diagram"] spBelongs := by
  refine F.ok sc_law_belongs (fun vs H Q E h => ?_) (fun cdv A outer s H vs Q E hr h => ?_)
  · obtain ⟨z, v, n, m, bs, rfl, _⟩ := h
    rfl
  · obtain ⟨z, v, n, m, bs, rfl, hv, mz, nb, q⟩ := h
    refine ⟨_, (pss_cons (ps_asg (pv 1) (pg_tup rfl (pgs_cons (pg_name (i := 2) sc_law_belongs.nd rfl (.inl rfl)) (pgs_cons (pg_name (i := 3) sc_law_belongs.nd rfl (.inl rfl)) (pgs_cons (pg_name (i := 4) sc_law_belongs.nd rfl (.inl rfl)) pgs_nil)))))
  (pss_cons (ps_for PassesOwn.never rfl (pi_tup (pv 4)) (pg_name (i := 5) sc_law_belongs.nd rfl (.inl rfl)) (Evl.pss_cut (ps_set (i := 6) sc_law_belongs.nd rfl (.inl rfl) (pe_and (pe_cmpR op_eq (pe_callB call_len_seq (by rfl) z_len boot_len (pa_cons (pv 5) pa_nil)) pe_int (nomark _)) (pe_one (pe_chain op_lt op_le (pe_ix ix_tup (pv 5) pe_int (fun _ _ => rfl)) (pv 2) (pe_ix ix_tup (pv 5) pe_int (fun _ _ => rfl))))))
  (Evl.pss_cut (ps_if (L2.PW.pt (pw_or (L2.PW.pt (pw_and (pt_cmpR op_eq (pv 0) pe_str (nomark _)) (pw_and1 (pt_not (pt_truth (pv 6) (by intro _; rfl)))))) (pw_or1 (L2.PW.pt (pw_and (pt_cmpR op_eq (pv 0) pe_str (nomark _)) (pw_and (pt_not (pt_truth (pv 6) (by intro _; rfl))) (pw_and1 (pt_cmpR op_gt (pe_callB call_len_seq (by rfl) z_len boot_len (pa_cons (pv 5) pa_nil)) pe_int (nomark _))))))))) (pss_one (ps_ret pe_bl)) pss_nil)
  (Evl.pss_cut (ps_if (L2.PW.pt (pw_or (L2.PW.pt (pw_and (pt_cmpR op_eq (pv 0) pe_str (nomark _)) (pw_and1 (pt_cmpR op_ne (pe_callB call_len_seq (by rfl) z_len boot_len (pa_cons (pv 5) pa_nil)) pe_int (nomark _))))) (pw_or1 (L2.PW.pt (pw_and (pt_cmpR op_eq (pv 0) pe_str (nomark _)) (pw_and1 (pt_cmpR op_gt (pe_callB call_len_seq (by rfl) z_len boot_len (pa_cons (pv 5) pa_nil)) pe_int (nomark _)))))))) (pss_one (ps_ret pe_bl)) pss_nil)
  (pss_one (ps_if (L2.PW.pt (pw_and (pt_cmpR op_eq (pv 0) pe_str (nomark _)) (pw_and1 (pt_cmpR op_eq (pe_op op_mod (pe_callTy call_int1 (by rfl) z_int boot_int (pa_cons (pe_callB call_len_seq (by rfl) z_len boot_len (pa_cons (pv 5) pa_nil)) pa_nil)) pe_int) pe_int (nomark _))))) (pss_one (ps_ret pe_bl)) pss_nil))))))
  (pss_one (ps_ret pe_bl)))), ?_⟩
    obtain ⟨t, vb, rfl, ht, tb, ts, rfl, htb, pr⟩ := id hv
    refine ⟨_, rfl, t, _, rfl, .inl (.inl ht), rfl, _, _, rfl, _, _, rfl, _, _, rfl, rfl, ?_⟩
    refine ⟨_, rfl, tb, rfl, ⟨_, .inl (.inl htb)⟩, for_it walk_tup (fun i σ H' => ∃ v5 v6 : Option V, σ = [some (.str z), some (.ref t), some (.int n), some (.int m), some (.ref tb), v5, v6] ∧ H' = H ∧ (bs.take i).all (blockOk z n) = true) ⟨none, none, rfl, rfl, rfl⟩ (fun i σ H' _ ⟨_, _, _, e, _⟩ => by rw [e]; exact .inl (.inl htb)) (fun i x σ H1 H2 hi hP hy => ?_) (fun σ H1 hP => ?_)⟩
    · obtain ⟨v5, v6, rfl, rfl, al⟩ := hP
      obtain ⟨rfl, ey⟩ := hy
      obtain ⟨b, eb, u, rfl, hu⟩ := tt_get pr ey
      have et : (bs.take (i + 1)).all (blockOk z n) = blockOk z n b := by
        rw [List.take_succ, eb, List.all_append, al, Bool.true_and]
        exact Bool.and_true _
      have mb := List.mem_of_getElem? eb
      have bad : blockOk z n b = false → inFam z n bs = false := fun h => by
        cases e : inFam z n bs with
        | false => rfl
        | true => exact nomatch h.symm.trans (List.all_eq_true.mp e b mb)
      refine ⟨fun σ H' => σ = [some (.str z), some (.ref t), some (.int n), some (.int m), some (.ref tb), some (.ref u), some (.bl (strandB n b))] ∧ H' = H2, ?_, ?_⟩
      · refine ⟨_, rfl, u, _, rfl, .inr (.inl (.inl hu)), rfl, _, rfl, ?_⟩
        rw [List.length_map]
        by_cases l2 : b.length = 2
        · refine if_pos_of (decide_eq_true (by rw [l2]; rfl)) ?_
          obtain ⟨x, y, rfl⟩ : ∃ x y, b = [x, y] := by
            match b, l2 with
            | [x, y], _ => exact ⟨x, y, rfl⟩
          have es : strandB n [x, y] = (decide (x < n) && decide (n ≤ y)) := by
            show (true && decide (x < n ∧ n ≤ y)) = _
            rw [Bool.true_and, Bool.decide_and]
          rw [es]
          refine ⟨_, rfl, u, _, 0, .int x, rfl, rfl, .inl (.inl hu), atI_nat (j := 0) rfl, _, rfl, _, _, rfl, rfl, _, rfl, ?_⟩
          by_cases c1 : x < n
          · rw [decide_eq_true c1]
            exact iteT ⟨_, rfl, u, _, 1, .int y, rfl, rfl, .inl (.inl hu), atI_nat (j := 1) rfl, _, _, rfl, rfl, rfl, rfl⟩
          · rw [decide_eq_false c1]
            exact iteF ⟨rfl, rfl⟩
        · refine if_neg_of (fun z => l2 (by have := V.int.inj (of_decide_eq_true z); omega)) ⟨?_, rfl⟩
          have : strandB n b = false := by
            unfold strandB
            rw [decide_eq_false l2]
            rfl
          rw [this]
          rfl
      rintro σ H1 ⟨rfl, rfl⟩
      have bOk : ∀ {x : Str}, z = x → blockOk z n b = blockOk x n b := fun e => by rw [e]
      refine ⟨fun σ H' => σ = [some (.str z), some (.ref t), some (.int n), some (.int m), some (.ref tb), some (.ref u), some (.bl (strandB n b))] ∧ H' = H1 ∧ (z = "threads" ∨ z = "loose" → blockOk z n b = true), ?_, ?_⟩
      · have hq : blockOk z n b = false → Q (.bl false) H1 := fun h => by rw [bad h] at q; exact q
        refine ⟨_, rfl, rfl, _, rfl, ?_⟩
        by_cases c1 : z = "threads"
        · refine if_pos_of (decide_eq_true (congrArg V.str c1)) ?_
          have e1 : blockOk z n b = strandB n b := bOk c1
          cases cs : strandB n b with
          | true =>
            refine ⟨_, rfl, true, rfl, if_neg_of Bool.false_ne_true ?_⟩
            refine ⟨_, rfl, rfl, _, rfl, if_neg_of (fun z => by have := V.str.inj (of_decide_eq_true z); rw [c1] at this; exact absurd this (by decide)) (if_neg_of Bool.false_ne_true ⟨rfl, rfl, fun _ => by rw [e1, cs]⟩)⟩
          | false =>
            exact ⟨_, rfl, false, rfl, if_pos_of rfl (iteT (hq (by rw [e1, cs])))⟩
        · refine if_neg_of (fun z => c1 (V.str.inj (of_decide_eq_true z))) (if_neg_of Bool.false_ne_true ?_)
          refine ⟨_, rfl, rfl, _, rfl, ?_⟩
          by_cases c2 : z = "loose"
          · refine if_pos_of (decide_eq_true (congrArg V.str c2)) ?_
            have e1 : blockOk z n b = (decide (b.length = 1) || strandB n b) := bOk c2
            cases cs : strandB n b with
            | true =>
              exact ⟨_, rfl, true, rfl, if_neg_of Bool.false_ne_true (if_neg_of Bool.false_ne_true ⟨rfl, rfl, fun _ => by rw [e1, cs, Bool.or_true]⟩)⟩
            | false =>
              refine ⟨_, rfl, false, rfl, if_pos_of rfl ⟨_, rfl, u, _, rfl, .inr (.inl (.inl hu)), _, _, rfl, rfl, _, rfl, ?_⟩⟩
              rw [List.length_map]
              have bne : b ≠ [] := nb b mb
              have lpos := List.length_pos_iff.mpr bne
              by_cases c3 : b.length = 1
              · exact if_neg_of (fun z => by have := of_decide_eq_true z; omega) ⟨rfl, rfl, fun _ => by rw [e1, decide_eq_true c3]; rfl⟩
              · exact if_pos_of (decide_eq_true (by omega)) (hq (by rw [e1, cs, decide_eq_false c3]; rfl))
          · exact if_neg_of (fun z => c2 (V.str.inj (of_decide_eq_true z))) (if_neg_of Bool.false_ne_true ⟨rfl, rfl, fun h => absurd h (fun h => h.elim c1 c2)⟩)
      rintro σ H1 ⟨rfl, rfl, k1⟩
      have hq : blockOk z n b = false → Q (.bl false) H1 := fun h => by rw [bad h] at q; exact q
      have sz : ∀ {x : Str}, z = x → x ≠ "threads" → x ≠ "loose" → blockOk z n b = sizeOk x b.length := fun {x} e h1 h2 => by
        rw [e]
        unfold blockOk
        rw [if_neg h1, if_neg h2]
      refine ⟨fun σ H' => σ = [some (.str z), some (.ref t), some (.int n), some (.int m), some (.ref tb), some (.ref u), some (.bl (strandB n b))] ∧ H' = H1 ∧ (z ≠ "even" → blockOk z n b = true), ?_, ?_⟩
      · refine ⟨_, rfl, rfl, _, rfl, ?_⟩
        by_cases c1 : z = "pairs"
        · refine if_pos_of (decide_eq_true (congrArg V.str c1)) ?_
          have e1 : blockOk z n b = decide (b.length = 2) := sz c1 (by decide) (by decide)
          refine ⟨_, rfl, u, _, rfl, .inr (.inl (.inl hu)), rfl, _, rfl, ?_⟩
          rw [List.length_map]
          by_cases c3 : b.length = 2
          · refine if_neg_of (by rw [show V.int ((b.length : Nat) : Int) = V.int 2 by rw [c3]; rfl, decide_eq_true rfl]; exact Bool.false_ne_true) ?_
            refine ⟨_, rfl, rfl, _, rfl, if_neg_of (fun z => by have := V.str.inj (of_decide_eq_true z); rw [c1] at this; exact absurd this (by decide)) (if_neg_of Bool.false_ne_true ⟨rfl, rfl, fun _ => by rw [e1, decide_eq_true c3]⟩)⟩
          · exact if_pos_of (by rw [decide_eq_false fun z => c3 (by have := V.int.inj z; omega)]; rfl) (iteT (hq (by rw [e1, decide_eq_false c3])))
        · refine if_neg_of (fun z => c1 (V.str.inj (of_decide_eq_true z))) (if_neg_of Bool.false_ne_true ?_)
          refine ⟨_, rfl, rfl, _, rfl, ?_⟩
          by_cases c2 : z = "lonepairs"
          · refine if_pos_of (decide_eq_true (congrArg V.str c2)) ?_
            have e1 : blockOk z n b = decide (b.length ≤ 2) := sz c2 (by decide) (by decide)
            refine ⟨_, rfl, u, _, rfl, .inr (.inl (.inl hu)), _, _, rfl, rfl, _, rfl, ?_⟩
            rw [List.length_map]
            by_cases c3 : b.length ≤ 2
            · exact if_neg_of (fun z => by have := of_decide_eq_true z; omega) ⟨rfl, rfl, fun _ => by rw [e1, decide_eq_true c3]⟩
            · exact if_pos_of (decide_eq_true (by omega)) (hq (by rw [e1, decide_eq_false c3]))
          · refine if_neg_of (fun z => c2 (V.str.inj (of_decide_eq_true z))) (if_neg_of Bool.false_ne_true ⟨rfl, rfl, fun ne => ?_⟩)
            by_cases c3 : z = "threads" ∨ z = "loose"
            · exact k1 c3
            · have : z = "parts" := by
                unfold fams at mz
                simp only [List.mem_cons, List.not_mem_nil, or_false] at mz
                rcases mz with h | h | h | h | h | h
                · exact absurd (.inl h) c3
                · exact absurd (.inr h) c3
                · exact absurd h c1
                · exact absurd h c2
                · exact absurd h ne
                · exact h
              rw [sz this (by decide) (by decide)]
              rfl
      clear k1
      rintro σ H1 ⟨rfl, rfl, k1⟩
      have fin : blockOk z n b = true → (bs.take (i + 1)).all (blockOk z n) = true := fun h => by rw [et]; exact h
      refine ⟨_, rfl, rfl, _, rfl, ?_⟩
      by_cases c1 : z = "even"
      · refine if_pos_of (decide_eq_true (congrArg V.str c1)) ?_
        have e1 : blockOk z n b = decide (b.length % 2 = 0) := sz c1 (by decide) (by decide)
        refine ⟨_, rfl, u, _, rfl, .inr (.inl (.inl hu)), .inl ⟨_, rfl, _, 2, rfl, rfl, (show (0 : Int) < 2 by decide), rfl, _, rfl, ?_⟩⟩
        rw [List.length_map]
        by_cases c3 : b.length % 2 = 0
        · exact if_neg_of (fun z => by have := V.int.inj (of_decide_eq_true z); omega) ⟨_, _, rfl, rfl, fin (by rw [e1, decide_eq_true c3])⟩
        · exact if_pos_of (decide_eq_true (congrArg V.int (show ((b.length : Nat) : Int) % 2 = 1 by omega))) (hq (by rw [e1, decide_eq_false c3]))
      · exact if_neg_of (fun z => c1 (V.str.inj (of_decide_eq_true z))) (if_neg_of Bool.false_ne_true ⟨_, _, rfl, rfl, fin (k1 c1)⟩)
    · obtain ⟨v5, v6, rfl, rfl, al⟩ := hP
      rw [pr.length, List.take_length] at al
      have : inFam z n bs = true := al
      rw [this] at q
      exact q
end

/-! ### _law_all -/
def mxI (row : List Int) : Int := row.foldl max (-1)
def nxR (row : List Int) (j : Nat) : List (List Int) := (List.range j).map fun (u : Nat) => row ++ [(u : Int)]
def topR (row : List Int) : Nat := (mxI row + 2).toNat
def accR (l : List (List Int)) : List (List Int) := (l.map fun row => nxR row (topR row)).flatten
def rgR : Nat → List (List Int)
  | 0 => [[]]
  | k + 1 => accR (rgR k)
theorem accR_snoc (l : List (List Int)) (row : List Int) : accR (l ++ [row]) = accR l ++ nxR row (topR row) := by
  unfold accR
  rw [List.map_append, List.flatten_append]
  show _ ++ (_ ++ []) = _
  rw [List.append_nil]
theorem accR_take (l : List (List Int)) (i : Nat) : (accR (l.take i)).length ≤ (accR l).length := by
  conv => rhs; rw [← List.take_append_drop i l]
  unfold accR
  rw [List.map_append, List.flatten_append, List.length_append]
  omega
theorem nxR_take {row : List Int} {d j : Nat} (h : j < d) : (nxR row d).take (j + 1) = (nxR row d).take j ++ [row ++ [(j : Int)]] := by
  unfold nxR
  rw [List.take_succ, List.getElem?_map, List.getElem?_range h]
  rfl
theorem nxR_len (row : List Int) (d : Nat) : (nxR row d).length = d := by
  unfold nxR
  rw [List.length_map, List.length_range]
theorem fold_max : ∀ (l : List Int) (a m : Int), m ∈ a :: l → (∀ y ∈ a :: l, y ≤ m) → l.foldl max a = m
  | [], a, m, h, _ => (List.mem_singleton.mp h).symm
  | x :: l, a, m, h, k => by
    show l.foldl max (max a x) = m
    have ka := k a List.mem_cons_self
    have kx := k x (List.mem_cons_of_mem _ List.mem_cons_self)
    refine fold_max l _ m ?_ fun y hy => ?_
    · rcases List.mem_cons.mp h with h | h
      · rw [show max a x = m by omega]; exact List.mem_cons_self
      · rcases List.mem_cons.mp h with h | h
        · rw [show max a x = m by omega]; exact List.mem_cons_self
        · exact List.mem_cons_of_mem _ h
    · rcases List.mem_cons.mp hy with hy | hy
      · omega
      · exact k y (List.mem_cons_of_mem _ (List.mem_cons_of_mem _ hy))
theorem rgR_ok : ∀ {k : Nat} {row : List Int}, row ∈ rgR k → row.length = k ∧ mxI row < (k : Int)
  | 0, row, h => by
    rw [List.mem_singleton.mp h]
    exact ⟨rfl, by decide⟩
  | k + 1, row, h => by
    obtain ⟨l, hl, hx⟩ := List.mem_flatten.mp (show row ∈ (_ : List (List (List Int))).flatten from h)
    obtain ⟨g, hg, rfl⟩ := List.mem_map.mp hl
    obtain ⟨u, hu, rfl⟩ := List.mem_map.mp hx
    obtain ⟨a, b⟩ := rgR_ok hg
    have hu := List.mem_range.mp hu
    unfold topR at hu
    refine ⟨by rw [List.length_append, a]; rfl, ?_⟩
    unfold mxI at b hu ⊢
    rw [List.foldl_append]
    show max _ (u : Int) < _
    omega
section
variable {P : Program} {w : World} {K : PySem.W.Frag} {mg : Str → Option Value} {base : Heap}
def spAll : Sp := fun vs H Q _ => ∃ (z : Str) (n m : Nat), vs = [.str z, .int (n : Int), .int (m : Int)] ∧ z ∈ fams ∧ siz n m = true ∧ (∀ k, k ≤ n + m → (rgR k).length ≤ 5000) ∧ ∀ L us H', Same H H' → H' L = some (.lst us) → Paired (fun v bs => DGv H' v n m bs) us (((rgR (n + m)).map blocksOf).filter (inFam z n)) → Q (.ref L) H'
theorem ok_law_all {f : Addr} {fd : FuncData} (F : Fun K "_law_all" "_law_all" s_law_all f fd) (z_range : mg "range" = none) (z_max : mg "max" = none)
    {a_law_marked : Addr} {fd_law_marked : FuncData} (G_law_marked : FnOk P w K mg base CX0 1 a_law_marked fd_law_marked ["n", "m", "marks"] (spMarked K)) (g_law_marked : mg "_law_marked" = some (.ref a_law_marked)) (k_law_marked : PySem.W.keepIn K (.ref a_law_marked) = true) (b_law_marked : Binds K fd_law_marked ["n", "m", "marks"] [])
    {a_law_belongs : Addr} {fd_law_belongs : FuncData} (G_law_belongs : FnOk P w K mg base CX0 1 a_law_belongs fd_law_belongs ["family", "diagram"] spBelongs) (g_law_belongs : mg "_law_belongs" = some (.ref a_law_belongs)) (k_law_belongs : PySem.W.keepIn K (.ref a_law_belongs) = true) (b_law_belongs : Binds K fd_law_belongs ["family", "diagram"] []) :
    FnOk P w K mg base CX0 2 f fd ["family", "n", "m"] spAll := by
  refine F.ok sc_law_all (fun vs H Q E h => ?_) (fun cdv A outer s H vs Q E hr h => ?_)
  · obtain ⟨z, n, m, rfl, _⟩ := h
    rfl
  · obtain ⟨z, n, m, rfl, mz, sz, few, q⟩ := h
    refine ⟨_, (pss_cons (ps_set (i := 3) sc_law_all.nd rfl (.inl rfl) (pe_lst (pa_cons (pe_tup pa_nil) pa_nil)))
  (pss_cons (ps_for PassesOwn.never rfl (pi_range1 rfl z_range (pa_cons (pe_op op_add (pv 1) (pv 2)) pa_nil)) (pg_name (i := 4) sc_law_all.nd rfl (.inl rfl)) (pss_cons (ps_set (i := 5) sc_law_all.nd rfl (.inl rfl) (pe_lst pa_nil))
  (pss_cons (ps_for PassesOwn.never rfl (pi_list (pv 3)) (pg_name (i := 6) sc_law_all.nd rfl (.inr rfl)) (pss_one (ps_set (i := 5) sc_law_all.nd rfl (.inl rfl) (pe_op op_cat (pv 5) (pe_lc (own := [("label", 9)]) rfl sc_law_all.nd (pi_range1 rfl z_range (pa_cons (pe_op op_add (pe_callB (cr_maxTI rfl (room64 hr)) (by rfl) z_max boot_max (pa_cons (pe_op op_catC (pe_tup (pa_cons (pe_un un_neg pe_int) pa_nil)) (pv 6)) pa_nil)) pe_int) pa_nil)) (blkOk_by (N := ["family", "n", "m", "rows", "j", "longer", "row", "found", "diagram", "label"]) (sc := defScope s_law_all) (by first | decide +kernel | rfl)) (fun _ _ _ _ _ => (pg_name (i := 9) sc_law_all.nd rfl (.inl rfl))) (fun _ _ _ _ _ => pts_nil) (fun _ _ _ _ _ => (pe_op op_catC (pv 6) (pe_tup (pa_cons (pv 9) pa_nil)))))))))
  (pss_one (ps_set (i := 3) sc_law_all.nd rfl (.inl rfl) (pv 5))))))
  (pss_cons (ps_setLc (i := 7) (own := [("row", 6)]) rfl sc_law_all.nd rfl rfl (sw_true rfl rfl rfl (by decide +kernel)) (pi_list (pv 3)) (blkOk_by (N := ["family", "n", "m", "rows", "j", "longer", "row", "found", "diagram", "label"]) (sc := defScope s_law_all) (by first | decide +kernel | rfl)) (fun _ _ _ _ _ => (pg_name (i := 6) sc_law_all.nd rfl (.inl rfl))) (fun _ _ _ _ _ => pts_nil) (fun _ _ _ _ _ => (pe_call G_law_marked (hr.mono (by decide)) rfl g_law_marked k_law_marked b_law_marked .nil pass0 (pa_cons (pv 1) (pa_cons (pv 2) (pa_cons (pv 6) pa_nil))))))
  (pss_one (ps_ret (pe_lc (own := [("diagram", 8)]) rfl sc_law_all.nd (pi_list (pv 7)) (blkOk_by (N := ["family", "n", "m", "rows", "j", "longer", "row", "found", "diagram", "label"]) (sc := defScope s_law_all) (by first | decide +kernel | rfl)) (fun _ _ _ _ _ => (pg_name (i := 8) sc_law_all.nd rfl (.inl rfl))) (fun _ _ _ _ _ => pts_one (pt_val (pe_call G_law_belongs (hr.mono (by decide)) rfl g_law_belongs k_law_belongs b_law_belongs .nil pass0 (pa_cons (pv 0) (pa_cons (pv 8) pa_nil))))) (fun _ _ _ _ _ => (pv 8)))))))), ?_⟩
    have szl : 20000 ≤ sizeLine := by decide
    have hs := siz_iff.mp sz
    refine ⟨(by show 0 ≤ sizeLine; omega), fun e1 ne1 => ⟨(by show 1 ≤ sizeLine; omega), fun R0 nR0 => ?_⟩⟩
    have w0 := same_upd (o := .lst [V.ref e1]) nR0
    have s1 : Same H (upd (upd H e1 (.tup [])) R0 (.lst [.ref e1])) := Same.trans (same_upd ne1) w0
    have pr1 : Paired (TP (upd (upd H e1 (.tup [])) R0 (.lst [.ref e1]))) [.ref e1] (rgR 0) := .cons ⟨e1, rfl, w0 _ _ upd_same⟩ .nil
    have hR1 : upd (upd H e1 (.tup [])) R0 (.lst [.ref e1]) R0 = some (.lst [.ref e1]) := upd_same
    generalize upd (upd H e1 (.tup [])) R0 (.lst [.ref e1]) = H1 at *
    refine ⟨_, rfl, _, rfl, _, _, rfl, rfl, (n : Int) + (m : Int), rfl, by omega, by omega, ?_⟩
    rw [show ((n : Int) + (m : Int)).toNat = n + m by omega]
    refine for_range (lo := 0) (n := n + m) (fun k σ H' => ∃ (R : Addr) (ps : List V) (v4 v5 v6 : Option V), σ = [some (.str z), some (.int (n : Int)), some (.int (m : Int)), some (.ref R), v4, v5, v6, none, none, none] ∧ Same H H' ∧ H' R = some (.lst ps) ∧ Paired (TP H') ps (rgR k))
      ⟨R0, _, none, none, none, rfl, s1, hR1, pr1⟩ (fun k σ H3 hk hP => ?_) (fun σ H3 hP => ?_)
    · obtain ⟨R, ps, v4, v5, v6, rfl, s3, hR, pr⟩ := hP
      refine ⟨(by show 0 ≤ sizeLine; omega), fun L nL => ?_⟩
      have tot : (accR (rgR k)).length ≤ 5000 := few (k + 1) (by omega)
      have w1 := same_upd (o := .lst []) nL
      refine ⟨_, rfl, R, rfl, ⟨_, .inl (.inl (w1 _ _ hR))⟩, for_list (xs := ps) (fun i σ H' => ∃ (L : Addr) (qs : List V) (v6 : Option V), σ = [some (.str z), some (.int (n : Int)), some (.int (m : Int)), some (.ref R), some (.int (0 + (k : Int))), some (.ref L), v6, none, none, none] ∧ Same H3 H' ∧ H' L = some (.lst qs) ∧ Paired (TP H') qs (accR ((rgR k).take i)))
        ⟨L, [], v6, rfl, w1, upd_same, .nil⟩ (fun i σ H' _ ⟨_, _, _, _, s', _⟩ => .inl (.inl (s' _ _ hR))) (fun i x σ H4 hx hP => ?_) (fun σ H4 hP => ?_)⟩
      · obtain ⟨L, qs, v6, rfl, s4, hL, pq⟩ := hP
        obtain ⟨row, er, ax, rfl, hax⟩ := paired_get pr hx
        have et : (rgR k).take (i + 1) = (rgR k).take i ++ [row] := by rw [List.take_succ, er]; rfl
        have atk := accR_take (rgR k) (i + 1)
        rw [et, accR_snoc] at atk ⊢
        rw [List.length_append, nxR_len] at atk
        obtain ⟨lrow, mrow⟩ := rgR_ok (List.mem_of_getElem? er)
        have ha4 := s4 _ _ hax
        refine ⟨_, rfl, 1, rfl, (by show 1 ≤ sizeLine; omega), fun q0 nq0 => ?_⟩
        have x0 := same_upd (o := .tup [V.int (-1)]) nq0
        refine ⟨_, rfl, q0, ax, _, _, rfl, rfl, upd_same, x0 _ _ ha4, by rw [List.length_map]; show 1 + _ ≤ _; omega, fun q1 H5 x1 hq1 => ?_⟩
        have x1 := Same.trans x0 x1
        refine ⟨q1, -1 :: row, rfl, .inl (.inl hq1), by rw [List.length_cons]; omega, fun mm hm hle => ?_⟩
        have emx : mxI row = mm := fold_max row (-1) mm hm hle
        have mp := hle (-1) List.mem_cons_self
        have et2 : topR row = (mm + 2).toNat := by unfold topR; rw [emx]
        refine ⟨_, _, rfl, rfl, mm + 2, rfl, by omega, by omega, fun D nD => ?_⟩
        rw [← et2]
        have s45 := Same.trans s4 x1
        have ha5 := x1 _ _ ha4
        have hL5 := x1 _ _ hL
        have pq5 : Paired (TP H5) qs (accR ((rgR k).take i)) := Paired.mapP pq fun _ _ h => h.same x1
        have aD : ax ≠ D := ne_of_none ha5 nD
        refine lc_range (lo := 0) (n := topR row) (fun j H' => SameBut D H5 H' ∧ ∃ us, H' D = some (.lst us) ∧ Paired (TP H') us ((nxR row (topR row)).take j)) ⟨SameBut.upd, [], upd_same, .nil⟩ (fun j H6 hj hP => ?_) (fun H6 hP => ?_)
        · obtain ⟨sb, us, hD, pu⟩ := hP
          refine ⟨rfl, ?_⟩
          rw [show (0 : Int) + (j : Int) = (j : Int) from Int.zero_add _]
          have lu : us.length ≤ 1000 := by
            rw [pu.length, List.length_take]
            omega
          have ha6 := sb _ _ aD ha5
          refine ⟨_, rfl, _, rfl, (by show 1 ≤ sizeLine; omega), fun q1 nq1 => ?_⟩
          have x1 := same_upd (o := .tup [V.int (j : Int)]) nq1
          refine ⟨_, _, _, _, rfl, rfl, x1 _ _ ha6, upd_same, by rw [List.length_map]; show _ + 1 ≤ _; omega, fun q2 H7 x2 hq2 => ?_⟩
          have x2 := Same.trans x1 x2
          have hq2 : H7 q2 = some (.tup ((row ++ [(j : Int)]).map V.int)) := by rw [hq2, List.map_append]; rfl
          have hD7 := x2 _ _ hD
          refine ⟨_, hD7, by omega, sb.trans fun b o nb e => SameBut.upd b o nb (x2 b o e), _, upd_same, ?_⟩
          rw [nxR_take hj]
          exact Paired.mapP (paired_add ⟨q2, rfl, hq2⟩ (Paired.mapP pu fun _ _ h => h.same x2)) fun _ _ h => TP.butL hD7 SameBut.upd h
        · obtain ⟨sb, us, hD, pu⟩ := hP
          rw [List.take_of_length_le (Nat.le_of_eq (nxR_len row _))] at pu
          have s56 : Same H5 H6 := fun b o e => sb b o (ne_of_none e nD) e
          refine ⟨_, _, _, _, rfl, rfl, s56 _ _ hL5, hD, ?_, fun M nM => ?_⟩
          · rw [pq.length, pu.length, nxR_len]
            omega
          · have y1 := Same.trans s56 (same_upd (o := .lst (qs ++ us)) nM)
            refine ⟨M, _, _, rfl, Same.trans s45 y1, upd_same, paired_app (Paired.mapP pq5 fun _ _ h => h.same y1) (Paired.mapP pu fun _ _ h => h.same (same_upd nM))⟩
      · obtain ⟨L, qs, v6, rfl, s4, hL, pq⟩ := hP
        rw [pr.length, List.take_length] at pq
        exact ⟨_, rfl, L, qs, _, _, _, rfl, Same.trans s3 s4, hL, pq⟩
    · obtain ⟨R, ps, v4, v5, v6, rfl, s3, hR, pr⟩ := hP
      have lr := few (n + m) (Nat.le_refl _)
      refine ⟨_, rfl, R, rfl, ⟨_, .inl (.inl hR)⟩, fun D nD => ?_⟩
      have RD : R ≠ D := ne_of_none hR nD
      have kD : ∀ {H' : Hp}, SameBut D H3 H' → Same H3 H' := fun sb b o e => sb b o (ne_of_none e nD) e
      refine lc_list (xs := ps) (fun i H' => SameBut D H3 H' ∧ ∃ us, H' D = some (.lst us) ∧ Paired (fun v bs => DGv H' v n m bs) us (((rgR (n + m)).take i).map blocksOf)) ⟨SameBut.upd, [], upd_same, .nil⟩ (fun i H' _ hP => .inl (.inl (hP.1 _ _ RD hR))) (fun i x H4 hx hP => ?_) (fun H4 hP => ?_)
      · obtain ⟨sb, us, hD, pu⟩ := hP
        obtain ⟨row, er, ax, rfl, hax⟩ := paired_get pr hx
        obtain ⟨lrow, _⟩ := rgR_ok (List.mem_of_getElem? er)
        refine ⟨rfl, _, rfl, _, rfl, _, rfl, n, m, ax, row, rfl, .inl (.inl (kD sb _ _ hax)), by omega, by omega, fun v H5 s5 _ dv => ?_⟩
        have hD5 := s5 _ _ hD
        refine ⟨_, hD5, by rw [pu.length, List.length_map, List.length_take]; omega, (sb.trans (Same.but s5)).trans SameBut.upd, _, upd_same, ?_⟩
        rw [List.take_succ, er, List.map_append]
        have pu5 : Paired (fun v bs => DGv H5 v (n : Int) (m : Int) bs) us _ := Paired.mapP pu fun _ _ h => DGv.same s5 h
        exact Paired.mapP (paired_add (F := fun v bs => DGv H5 v (n : Int) (m : Int) bs) dv pu5) fun _ _ h => DGv.butL hD5 SameBut.upd h
      · obtain ⟨sb, us, hD, pu⟩ := hP
        rw [pr.length, List.take_length] at pu
        have s34 := kD sb
        have lu := pu.length
        rw [List.length_map] at lu
        refine ⟨_, rfl, D, rfl, ⟨_, .inl (.inl hD)⟩, fun D2 nD2 => ?_⟩
        have DD : D ≠ D2 := ne_of_none hD nD2
        have kD2 : ∀ {H' : Hp}, SameBut D2 H4 H' → Same H4 H' := fun sb b o e => sb b o (ne_of_none e nD2) e
        refine lc_list (xs := us) (fun i H' => SameBut D2 H4 H' ∧ ∃ ws, ws.length ≤ i ∧ H' D2 = some (.lst ws) ∧ Paired (fun v bs => DGv H' v n m bs) ws ((((rgR (n + m)).map blocksOf).take i).filter (inFam z n))) ⟨SameBut.upd, [], Nat.le_refl _, upd_same, .nil⟩ (fun i H' _ hP => .inl (.inl (hP.1 _ _ DD hD))) (fun i x H5 hx hP => ?_) (fun H5 hP => ?_)
        · obtain ⟨sb2, ws, lw, hD2, pw⟩ := hP
          obtain ⟨bs, eb, dv⟩ := paired_get pu hx
          have li := (List.getElem?_eq_some_iff.mp hx).1
          have nb : ∀ b ∈ bs, b ≠ [] := by
            obtain ⟨row, _, rfl⟩ := List.mem_map.mp (List.mem_of_getElem? eb)
            exact blocks_ne
          have dv5 : DGv H5 x n m bs := DGv.same (kD2 sb2) dv
          have et : (((rgR (n + m)).map blocksOf).take (i + 1)).filter (inFam z n) = (((rgR (n + m)).map blocksOf).take i).filter (inFam z n) ++ (if inFam z n bs = true then [bs] else []) := by
            rw [List.take_succ, eb, List.filter_append]
            show _ ++ List.filter _ [bs] = _
            rw [List.filter_cons]
            rfl
          refine ⟨rfl, _, rfl, _, rfl, z, x, n, m, bs, rfl, dv5, mz, nb, _, rfl, ?_⟩
          by_cases c : inFam z n bs = true
          · refine if_pos_of c ⟨_, rfl, ws, hD2, by omega, sb2.trans SameBut.upd, _, by rw [List.length_append]; show _ + 1 ≤ _; omega, upd_same, ?_⟩
            rw [et, if_pos c]
            exact Paired.mapP (paired_add (F := fun v bs => DGv H5 v (n : Int) (m : Int) bs) dv5 pw) fun _ _ h => DGv.butL hD2 SameBut.upd h
          · refine if_neg_of c ⟨sb2, ws, by omega, hD2, ?_⟩
            rw [et, if_neg c, List.append_nil]
            exact pw
        · obtain ⟨sb2, ws, lw, hD2, pw⟩ := hP
          rw [pu.length, List.take_length] at pw
          exact q D2 ws H5 (Same.trans s3 (Same.trans s34 (kD2 sb2))) hD2 pw
end

section
variable {P : Program} {w : World} {K : PySem.W.Frag} {mg : Str → Option Value} {base : Heap}
/-! ### _law_marks -/
def spMarks : Sp := fun vs H Q _ => ∃ (v : V) (n m : Int) (bs : List (List Int)), vs = [v] ∧ DGv H v n m bs ∧ IsDg n m bs ∧ bs.length ≤ 1000 ∧ ∀ D H', Same H H' → H D = none → H' D = some (.lst ((labL bs (n + m).toNat).map V.int)) → Q (.ref D) H'
theorem ok_law_marks {f : Addr} {fd : FuncData} (F : Fun K "_law_marks" "_law_marks" s_law_marks f fd) (z_len : mg "len" = none) (z_range : mg "range" = none) : FnOk P w K mg base CX0 1 f fd ["diagram"] spMarks := by
  refine F.ok sc_law_marks (fun vs H Q E h => ?_) (fun cdv A outer s H vs Q E hr h => ?_)
  · obtain ⟨v, n, m, bs, rfl, _⟩ := h
    rfl
  · obtain ⟨v, n, m, bs, rfl, hv, dg, lb, q⟩ := h
    refine ⟨_, (pss_cons (ps_set (i := 1) sc_law_marks.nd rfl (.inl rfl) (pe_op op_rep (pe_lst (pa_cons pe_int pa_nil)) (pe_op op_add (pe_ix ix_tup (pv 0) pe_int (fun _ _ => rfl)) (pe_ix ix_tup (pv 0) pe_int (fun _ _ => rfl)))))
  (pss_cons (ps_for PassesOwn.never rfl (pi_range1 rfl z_range (pa_cons (pe_callB call_len_seq (by rfl) z_len boot_len (pa_cons (pe_ix ix_tup (pv 0) pe_int (fun _ _ => rfl)) pa_nil)) pa_nil)) (pg_name (i := 2) sc_law_marks.nd rfl (.inl rfl)) (pss_one (ps_for PassesOwn.never rfl (pi_tup (pe_ix ix_tup (pe_ix ix_tup (pv 0) pe_int (fun _ _ => rfl)) (pv 2) (fun _ _ => rfl))) (pg_name (i := 3) sc_law_marks.nd rfl (.inl rfl)) (pss_one (ps_asg (pv 2) (pg_sub (pv 1) (pv 3) set_list))))))
  (pss_one (ps_ret (pv 1))))), ?_⟩
    have szl : 20000 ≤ sizeLine := by decide
    have hs := siz_iff.mp dg.sz
    obtain ⟨t, vb, rfl, ht, tb, ts, rfl, htb, pr⟩ := hv
    have lts : ts.length = bs.length := pr.length
    obtain ⟨N, eN⟩ : ∃ N : Nat, n + m = (N : Int) := ⟨(n + m).toNat, by omega⟩
    refine ⟨(by show 1 ≤ sizeLine; decide), fun z nz => ?_⟩
    have q0 := same_upd (o := .lst [.int 0]) nz
    refine ⟨_, rfl, t, _, 0, .int n, rfl, rfl, .inl (.inl (q0 _ _ ht)), atI_nat (j := 0) rfl, _, rfl, t, _, 1, .int m, rfl, rfl, .inl (.inl (q0 _ _ ht)), atI_nat (j := 1) rfl, _, _, rfl, rfl, z, _, _, rfl, rfl, upd_same, ?_⟩
    dsimp only
    rw [eN]
    refine ⟨by omega, by omega, by show 1 * _ ≤ sizeLine; omega, fun D nD => ?_⟩
    rw [show ((N : Nat) : Int).toNat = N from rfl, rep0]
    have s1 : Same H (upd (upd H z (.lst [.int 0])) D (.lst ((List.replicate N (0 : Int)).map V.int))) := Same.trans q0 (same_upd nD)
    have hD1 : upd (upd H z (.lst [.int 0])) D (.lst ((List.replicate N (0 : Int)).map V.int)) D = some (.lst ((List.replicate N (0 : Int)).map V.int)) := upd_same
    have nD0 := none_back q0 nD
    revert s1 hD1
    generalize upd (upd H z (.lst [.int 0])) D (.lst ((List.replicate N (0 : Int)).map V.int)) = H1
    intro s1 hD1
    refine ⟨_, rfl, t, _, 2, .ref tb, rfl, rfl, .inl (.inl (s1 _ _ ht)), atI_nat (j := 2) rfl, tb, _, rfl, .inr (.inl (.inl (s1 _ _ htb))), ?_⟩
    rw [lts]
    refine ⟨_, rfl, by omega, by omega, for_range (lo := 0) (n := bs.length) (fun i σ H' => ∃ v2 v3, σ = [some (.ref t), some (.ref D), v2, v3] ∧ Same H H' ∧ H' D = some (.lst ((labN bs i N).map V.int)))
      ⟨none, none, rfl, s1, hD1⟩ (fun i σ H3 hi hP => ?_) (fun σ H' hP => ?_)⟩
    · obtain ⟨v2, v3, rfl, s3, hD3⟩ := hP
      have ei : (0 : Int) + (i : Int) = ((i : Nat) : Int) := Int.zero_add _
      have hti : i < ts.length := by omega
      obtain ⟨b, eb, a, ea, ha⟩ := tt_get pr (List.getElem?_eq_getElem hti)
      have mb := List.mem_of_getElem? eb
      have eti : atI ts ((0 : Int) + (i : Int)) = some (.ref a) := by rw [ei]; exact atI_nat (by rw [List.getElem?_eq_getElem hti, ea])
      refine ⟨_, rfl, t, _, 2, .ref tb, rfl, rfl, .inl (.inl (s3 _ _ ht)), atI_nat (j := 2) rfl, _, rfl, tb, _, _, _, rfl, rfl, .inl (.inl (s3 _ _ htb)), eti, a, rfl, ⟨_, .inl (.inl (s3 _ _ ha))⟩, for_it walk_tup (fun j σ H' => ∃ v3, σ = [some (.ref t), some (.ref D), some (.int (0 + (i : Int))), v3] ∧ Same H H' ∧ H' D = some (.lst (((b.take j).foldl (fun ms p => ms.set p.toNat (i : Int)) (labN bs i N)).map V.int)))
        ⟨v3, rfl, s3, hD3⟩ (fun j σ H' _ ⟨_, _, s', _⟩ => .inl (.inl (s' _ _ ha))) (fun j y σ H6 H7 hj hP hy => ?_) (fun σ H' hP => ?_)⟩
      · obtain ⟨v3, rfl, s5, hD5⟩ := hP
        obtain ⟨e0, hy⟩ := hy
        subst e0
        rw [List.length_map] at hj
        have ez : (b.map V.int)[j]? = some (.int (co b j)) := by rw [List.getElem?_map, co_get hj]; rfl
        obtain rfl : V.int (co b j) = y := Option.some.inj (ez.symm.trans hy)
        obtain ⟨c0, c1⟩ := dg_pt dg mb (co_mem hj)
        have ll : ((b.take j).foldl (fun ms p => ms.set p.toNat (i : Int)) (labN bs i N)).length = N := by
          rw [fold_len]
          unfold labN
          rw [labFrom_len, List.length_replicate]
        refine ⟨_, rfl, _, rfl, _, rfl, D, _, _, (co b j).toNat, rfl, rfl, hD5, (by obtain ⟨u, hu⟩ := Int.eq_ofNat_of_zero_le c0; rw [hu]; exact ixN_nat (by rw [List.length_map, ll]; omega)), ?_⟩
        refine ⟨_, rfl, Same.mut s5 nD0, ?_⟩
        rw [upd_same, ei, map_set, fold_take hj]
      · obtain ⟨v3, rfl, s5, hD5⟩ := hP
        rw [List.length_map, List.take_length] at hD5
        refine ⟨_, _, rfl, s5, ?_⟩
        rw [hD5]
        unfold labN
        rw [List.take_succ, eb, show (some b).toList = [b] from rfl, labFrom_snoc, List.length_take, Nat.min_eq_left (by omega), Nat.zero_add]
    · obtain ⟨v2, v3, rfl, s3, hD3⟩ := hP
      refine ⟨_, rfl, q D H' s3 nD0 ?_⟩
      rw [hD3, eN]
      unfold labN labL
      rw [List.take_length]
      rfl
end

theorem call_len_seqK {X : Cx} {K : PySem.W.Frag} (hK : X.K = K) : CallR X (.builtin "len") (fun xs H Q => ∃ p ys, xs = [.ref p] ∧ (SqL K H p ys ∨ SqT K H p ys) ∧ Q (.int (ys.length : Nat)) H) := by
  subst hK
  exact call_len_seq

theorem pg_tupK {X : Cx} {K : PySem.W.Frag} (hK : X.K = K) {es : List Expr} {k : Nat} {t : TGs} {n : Nat} {pos : Pos} (hc : X.calm = true) (h : PGs X es t)
    (hn : (assignEach es X.env).length = n := by rfl) (hst : (assignEach es X.env).findIdx? (·.1) = none := by rfl) : PG X (.Tuple es k pos) (gTup K n t) := by
  subst hK
  exact pg_tup hc h hn hst
theorem sl_tupK {X : Cx} {K : PySem.W.Frag} (hK : X.K = K) : SlR X (rSlT K) := by
  subst hK
  exact sl_tup

/-! ### _law_world (seven kinds) -/
def wtab7 : List Int := [0, 0, 0, 2, 3, 5, 7]
theorem wtab7_in : ∀ k : Nat, k < 7 → wtab7.getD k 0 = 0 ∨ (wtab7.getD k 0 ≠ 0 ∧ inV (.int (wtab7.getD k 0)) (primes.map V.int) = true ∧ 2 ≤ wtab7.getD k 0 ∧ wtab7.getD k 0 ≤ 7) := by decide
section
variable {P : Program} {w : World} {K : PySem.W.Frag} {mg : Str → Option Value} {base : Heap}
def spLawWorld : Sp := fun vs H Q _ => ∃ (a : Addr) (ds : List Int), vs = [.ref a] ∧ H a = some (.lst (ds.map V.int)) ∧
  ∀ (p d : Int) (ds' : List Int) (x : Addr) (H' : Hp), SameBut a H H' → H' a = some (.lst (ds'.map V.int)) → H x = none → H' x = some (.tup [.int p, .int d]) → isW p d = true → d.natAbs ≤ 6 → Q (.ref x) H'
theorem ok_law_world {f a_law_next : Addr} {fd fd_law_next : FuncData} (F : Fun K "_law_world" "_law_world" s_law_world f fd) (z_int : mg "int" = none)
    (G_law_next : FnOk P w K mg base CX0 1 a_law_next fd_law_next ["draws"] spNext) (g_law_next : mg "_law_next" = some (.ref a_law_next)) (k_law_next : PySem.W.keepIn K (.ref a_law_next) = true) (b_law_next : Binds K fd_law_next ["draws"] []) :
    FnOk P w K mg base CX0 2 f fd ["draws"] spLawWorld := by
  refine F.ok sc_law_world (fun vs H Q E h => ?_) (fun cdv A outer s H vs Q E hr h => ?_)
  · obtain ⟨a, ds, rfl, _⟩ := h
    rfl
  · obtain ⟨a, ds, rfl, hL, q⟩ := h
    refine ⟨_, (pss_cons (ps_set (i := 1) sc_law_world.nd rfl (.inl rfl) (pe_ix ix_list (pe_lst (pa_cons pe_int (pa_cons pe_int (pa_cons pe_int (pa_cons pe_int (pa_cons pe_int (pa_cons pe_int (pa_cons pe_int pa_nil)))))))) (pe_op op_mod (pe_callTy call_int1 (by rfl) z_int boot_int (pa_cons (pe_call G_law_next (hr.mono (by decide)) rfl g_law_next k_law_next b_law_next .nil pass0 (pa_cons (pv 0) pa_nil)) pa_nil)) pe_int) (fun _ _ => rfl)))
  (pss_cons (ps_if (pt_cmpR op_eq (pv 1) pe_int (nomark _)) (pss_one (ps_ret (pe_tup (pa_cons pe_int (pa_cons (pe_op op_sub (pe_op op_mod (pe_callTy call_int1 (by rfl) z_int boot_int (pa_cons (pe_call G_law_next (hr.mono (by decide)) rfl g_law_next k_law_next b_law_next .nil pass0 (pa_cons (pv 0) pa_nil)) pa_nil)) pe_int) pe_int) pa_nil))))) pss_nil)
  (pss_one (ps_ret (pe_tup (pa_cons (pv 1) (pa_cons (pe_op op_mod (pe_callTy call_int1 (by rfl) z_int boot_int (pa_cons (pe_call G_law_next (hr.mono (by decide)) rfl g_law_next k_law_next b_law_next .nil pass0 (pa_cons (pv 0) pa_nil)) pa_nil)) (pv 1)) pa_nil))))))), ?_⟩
    refine ⟨(by show 7 ≤ sizeLine; decide), fun l nl => ?_⟩
    have hal : a ≠ l := ne_of_none hL nl
    refine ⟨_, rfl, a, ds, rfl, (by rw [upd_ne hal]; exact hL), fun n ds1 => ?_⟩
    have m8 := mod_lt8 n (show (0 : Int) < 7 by decide)
    refine .inl ⟨n, rfl, n, 7, rfl, rfl, (show (0 : Int) < 7 by decide), l, wtab7.map V.int, n % 7, .int (wtab7.getD (n % 7).toNat 0), rfl, rfl, .inl (.inl (by rw [upd_ne (Ne.symm hal), upd_same]; rfl)), at_tab m8.1 m8.2, ?_⟩
    have hw := wtab7_in (n % 7).toNat (by omega)
    generalize wtab7.getD (n % 7).toNat 0 = p at hw
    have s1 : SameBut a H (upd (upd H l (.lst [.int 0, .int 0, .int 0, .int 2, .int 3, .int 5, .int 7])) a (.lst (ds1.map V.int))) := (SameBut.new nl).trans SameBut.upd
    refine ⟨_, rfl, rfl, _, rfl, ite2 (fun e => ?_) (fun e => ?_)⟩
    · have e0 : p = 0 := V.int.inj (of_decide_eq_true e)
      refine ⟨_, rfl, a, ds1, rfl, upd_same, fun n2 ds2 => ?_⟩
      have m12 := mod_lt8 n2 (show (0 : Int) < 11 by decide)
      refine .inl ⟨n2, rfl, n2, 11, rfl, rfl, (show (0 : Int) < 11 by decide), _, 4, rfl, rfl, (by show 2 ≤ sizeLine; decide), fun r nr => ?_⟩
      have hra : a ≠ r := ne_of_none upd_same nr
      have nr' : H r = none := by
        rw [upd_ne (Ne.symm hra), upd_ne (Ne.symm hra)] at nr
        by_cases c : r = l
        · rw [c, upd_same] at nr
          cases nr
        · rwa [upd_ne c] at nr
      refine q 0 (n2 % 11 - 4) ds2 r _ ((s1.trans SameBut.upd).trans (SameBut.new nr)) (by rw [upd_ne hra, upd_same]) nr' upd_same (by unfold isW; rw [if_pos rfl, if_pos (by omega)]; exact decide_eq_true (by omega)) (by omega)
    · have e0 : p ≠ 0 := fun z => e (decide_eq_true (congrArg V.int z))
      obtain ⟨_, hin, h2, h7⟩ := hw.resolve_left e0
      have hpos : 0 < p := by omega
      refine ⟨_, rfl, _, rfl, a, ds1, rfl, upd_same, fun n2 ds2 => ?_⟩
      have mp := mod_lt8 n2 hpos
      refine .inl ⟨n2, rfl, _, rfl, n2, p, rfl, rfl, hpos, (by show 2 ≤ sizeLine; decide), fun r nr => ?_⟩
      have hra : a ≠ r := ne_of_none upd_same nr
      have nr' : H r = none := by
        rw [upd_ne (Ne.symm hra), upd_ne (Ne.symm hra)] at nr
        by_cases c : r = l
        · rw [c, upd_same] at nr
          cases nr
        · rwa [upd_ne c] at nr
      refine q p (n2 % p) ds2 r _ ((s1.trans SameBut.upd).trans (SameBut.new nr)) (by rw [upd_ne hra, upd_same]) nr' upd_same (by unfold isW; rw [if_neg e0, if_pos hin, if_pos mp.1]; exact decide_eq_true mp.2) (by omega)
end

/-! ### numbers added: what the program and the law reckon -/
def addN (p : Int) (x y : Int × Int) : Int × Int := if p = 0 then low (x.1 * y.2 + y.1 * x.2) (x.2 * y.2) else ((x.1 + y.1) % p, 1)
theorem isN_z {a b : Int} (h : isN 0 a b = true) : 0 < b := by
  unfold isN at h
  rw [if_pos rfl] at h
  split at h
  · omega
  · exact nomatch h
theorem isN_p {p a b : Int} (hp : p ≠ 0) (h : isN p a b = true) : b = 1 ∧ 0 ≤ a ∧ a < p := by
  unfold isN at h
  rw [if_neg hp] at h
  split at h
  · split at h
    · exact ⟨by assumption, by assumption, of_decide_eq_true h⟩
    · exact nomatch h
  · exact nomatch h
theorem num_mod {p A u v : Int} (hp : 0 < p) (h : IsNum p A 1 u v) : (u, v) = (A % p, 1) := by
  rcases h with ⟨_, e, l, b, m⟩ | ⟨h0, _⟩
  · rw [Int.mul_one] at m
    have hh : u % p = A % p := Int.emod_eq_emod_iff_emod_sub_eq_zero.mpr m
    rw [← hh, Int.emod_eq_of_lt l b, e]
  · exact absurd hp h0
theorem addN_of {p a b a' b' u v : Int} (hp : p = 0 ∨ p ∈ primes) (h1 : isN p a b = true) (h2 : isN p a' b' = true) (h : IsNum p (fPlusA a b a' b') (fTimesB a b a' b') u v) : (u, v) = addN p (a, b) (a', b') := by
  unfold addN
  rcases hp with rfl | hp
  · rw [if_pos rfl]
    rcases h with ⟨h0, _⟩ | ⟨_, e⟩
    · exact absurd h0 (by decide)
    · exact e
  · have pp := prime_pos hp
    rw [if_neg (by omega)]
    obtain ⟨rfl, _, _⟩ := isN_p (by omega) h1
    obtain ⟨rfl, _, _⟩ := isN_p (by omega) h2
    have h : IsNum p (a * 1 + a' * 1) (1 * 1) u v := h
    rw [Int.mul_one, Int.mul_one] at h
    exact num_mod (by omega) h
/-- a number of the world, and how large it may be: at most M, its denominator a part of D -/
structure NB (p : Int) (M D : Nat) (x : Int × Int) : Prop where
  ok : isN p x.1 x.2 = true
  sm : p = 0 → x.1.natAbs ≤ M * x.2.natAbs ∧ x.2 ∣ (D : Int)
theorem NB.more {p : Int} {M M' D : Nat} {x : Int × Int} (h : NB p M D x) (l : M ≤ M') : NB p M' D x := ⟨h.ok, fun z => ⟨Nat.le_trans (h.sm z).1 (Nat.mul_le_mul_right _ l), (h.sm z).2⟩⟩
theorem low_dvd {a b : Int} : (low a b).2 ∣ b := by
  have g : gI a b ∣ b := by
    unfold gI
    exact Int.natAbs_dvd_natAbs.mp (by rw [Int.natAbs_natCast]; exact Nat.gcd_dvd_right _ _)
  unfold low
  split
  · obtain ⟨c, e⟩ := g
    by_cases h0 : gI a b = 0
    · rw [h0, Int.zero_mul] at e
      rw [e]
      exact Int.dvd_zero _
    · show (-b) / gI a b ∣ b
      have : -b = gI a b * (-c) := by rw [Int.mul_neg, ← e]
      rw [this, Int.mul_ediv_cancel_left _ h0]
      exact ⟨-gI a b, by rw [Int.neg_mul_neg, Int.mul_comm]; exact e⟩
  · obtain ⟨c, e⟩ := g
    by_cases h0 : gI a b = 0
    · rw [h0, Int.zero_mul] at e
      rw [e]
      exact Int.dvd_zero _
    · show b / gI a b ∣ b
      have : b / gI a b = c := Int.ediv_eq_of_eq_mul_right h0 e
      rw [this]
      exact ⟨gI a b, by rw [Int.mul_comm]; exact e⟩
theorem nb_low {A B : Int} {M D : Nat} (hB : 0 < B) (hA : A.natAbs ≤ M * B.natAbs) (hd : ∃ N : Int, A * (D : Int) = N * B) (hD : 0 < D) : NB 0 M D (low A B) := by
  refine ⟨low_isN (by omega), fun _ => ?_⟩
  obtain ⟨c, hv⟩ := low_cross (u := (low A B).1) (v := (low A B).2) (by omega) rfl
  refine ⟨?_, ?_⟩
  · have e : (low A B).1.natAbs * B.natAbs = A.natAbs * (low A B).2.natAbs := by rw [← Int.natAbs_mul, c, Int.natAbs_mul]
    have l : A.natAbs * (low A B).2.natAbs ≤ M * B.natAbs * (low A B).2.natAbs := Nat.mul_le_mul_right _ hA
    rw [← e, Nat.mul_right_comm] at l
    exact Nat.le_of_mul_le_mul_right l (by omega)
  · obtain ⟨N, eN⟩ := hd
    have : low A B = low N (D : Int) := low_congr (by omega) (by omega) eN
    rw [this]
    exact low_dvd
theorem addN_nb {p : Int} {M1 M2 D : Nat} {x y : Int × Int} (hp : p = 0 ∨ p ∈ primes) (hD : 0 < D) (h1 : NB p M1 D x) (h2 : NB p M2 D y) : NB p (M1 + M2) D (addN p x y) := by
  unfold addN
  by_cases c : p = 0
  · subst c
    rw [if_pos rfl]
    have p1 := isN_z h1.ok
    have p2 := isN_z h2.ok
    obtain ⟨s1, c1, e1⟩ := h1.sm rfl
    obtain ⟨s2, c2, e2⟩ := h2.sm rfl
    refine nb_low (Int.mul_pos p1 p2) ?_ ⟨x.1 * c1 + y.1 * c2, ?_⟩ hD
    · have t := Int.natAbs_add_le (x.1 * y.2) (y.1 * x.2)
      rw [Int.natAbs_mul, Int.natAbs_mul] at t
      rw [Int.natAbs_mul]
      have a1 : x.1.natAbs * y.2.natAbs ≤ M1 * x.2.natAbs * y.2.natAbs := Nat.mul_le_mul_right _ s1
      have a2 : y.1.natAbs * x.2.natAbs ≤ M2 * y.2.natAbs * x.2.natAbs := Nat.mul_le_mul_right _ s2
      have a3 : M2 * y.2.natAbs * x.2.natAbs = M2 * (x.2.natAbs * y.2.natAbs) := by rw [Nat.mul_assoc, Nat.mul_comm y.2.natAbs]
      have a4 : M1 * x.2.natAbs * y.2.natAbs = M1 * (x.2.natAbs * y.2.natAbs) := Nat.mul_assoc _ _ _
      rw [Nat.add_mul]
      omega
    · rw [Int.add_mul, Int.add_mul]
      congr 1
      · rw [show (D : Int) = x.2 * c1 from e1]
        ac_rfl
      · rw [show (D : Int) = y.2 * c2 from e2]
        ac_rfl
  · rw [if_neg c]
    have pp := prime_pos (hp.resolve_left c)
    refine ⟨?_, fun z => absurd z c⟩
    unfold isN
    rw [if_neg c, if_pos rfl, if_pos (Int.emod_nonneg _ c)]
    exact decide_eq_true (Int.emod_lt_of_pos _ (by omega))

/-! ### sums as lists of diagrams with their numbers -/
abbrev BS := List (List Int)
abbrev Asc := List (BS × Int × Int)
/-- a diagram with so many points -/
def GD (N : Nat) (b : BS) : Prop := ∃ l : List Int, b = blocksOf l ∧ l.length = N
theorem GD.inj {N : Nat} {a b : BS} (ha : GD N a) (hb : GD N b) (h : labL a N = labL b N) : a = b := by
  obtain ⟨l, rfl, rfl⟩ := ha
  obtain ⟨l', rfl, e⟩ := hb
  have x := blocks_lab l
  have y := blocks_lab l'
  rw [e] at y
  rw [← x, h, y]
def getA (A : Asc) (b : BS) : Option (Int × Int) := (A.find? fun e => decide (e.1 = b)).map (·.2)
def putA (A : Asc) (b : BS) (x : Int × Int) : Asc := if (getA A b).isSome = true then A.map fun e => if e.1 = b then (e.1, x) else e else A ++ [(b, x)]
def numA (A : Asc) (b : BS) : Int × Int := (getA A b).getD (0, 1)
def addA (p : Int) (A : Asc) (b : BS) (x : Int × Int) : Asc := putA A b (addN p (numA A b) x)
def sumA (p : Int) (L : Asc) : Asc := L.foldl (fun A e => addA p A e.1 e.2) []
theorem rev_ind {α : Type} {p : List α → Prop} (h0 : p []) (h1 : ∀ l a, p l → p (l ++ [a])) (l : List α) : p l := by
  have : ∀ m : List α, p m.reverse := fun m => by
    induction m with
    | nil => exact h0
    | cons a m ih =>
      rw [List.reverse_cons]
      exact h1 _ _ ih
  have h := this l.reverse
  rwa [List.reverse_reverse] at h
theorem getA_nil (b : BS) : getA [] b = none := rfl
theorem getA_cons (e : BS × Int × Int) (A : Asc) (b : BS) : getA (e :: A) b = if e.1 = b then some e.2 else getA A b := by
  unfold getA
  by_cases h : e.1 = b
  · simp [List.find?_cons, h]
  · simp [List.find?_cons, h]
theorem getA_mem {A : Asc} {b : BS} {x : Int × Int} : getA A b = some x → (b, x) ∈ A := by
  induction A with
  | nil => intro h; exact nomatch h
  | cons e A ih =>
    rw [getA_cons]
    split
    · rename_i c
      intro h
      obtain rfl := Option.some.inj h
      rw [← c]
      exact .head _
    · exact fun h => .tail _ (ih h)
theorem getA_of {A : Asc} (nd : (A.map (·.1)).Nodup) {e : BS × Int × Int} (h : e ∈ A) : getA A e.1 = some e.2 := by
  induction A with
  | nil => exact nomatch h
  | cons a A ih =>
    rw [List.map_cons, List.nodup_cons] at nd
    rw [getA_cons]
    rcases List.mem_cons.mp h with rfl | h
    · rw [if_pos rfl]
    · rw [if_neg fun z : a.1 = e.1 => nd.1 (by rw [z]; exact List.mem_map_of_mem h)]
      exact ih nd.2 h
theorem getA_none {A : Asc} {b : BS} (h : getA A b = none) : b ∉ A.map (·.1) := fun m => by
  induction A with
  | nil => exact nomatch m
  | cons a A ih =>
    rw [getA_cons] at h
    split at h
    · exact nomatch h
    · rename_i c
      rcases List.mem_cons.mp m with e | m
      · exact c e.symm
      · exact ih h m
theorem putA_keys (A : Asc) (b : BS) (x : Int × Int) : (putA A b x).map (·.1) = if (getA A b).isSome = true then A.map (·.1) else A.map (·.1) ++ [b] := by
  unfold putA
  split
  · rw [List.map_map]
    refine List.map_congr_left fun e _ => ?_
    show (if e.1 = b then (e.1, x) else e).1 = e.1
    split <;> rfl
  · rw [List.map_append]
    rfl
theorem putA_nodup {A : Asc} (nd : (A.map (·.1)).Nodup) (b : BS) (x : Int × Int) : ((putA A b x).map (·.1)).Nodup := by
  rw [putA_keys]
  split
  · exact nd
  · rename_i c
    have h : getA A b = none := Option.not_isSome_iff_eq_none.mp c
    rw [List.nodup_append]
    exact ⟨nd, List.nodup_cons.mpr ⟨List.not_mem_nil, List.nodup_nil⟩, fun a ha c hc e => getA_none h (by rw [List.mem_singleton.mp hc] at e; rw [← e]; exact ha)⟩
theorem putA_mem {A : Asc} {b : BS} {x : Int × Int} {e : BS × Int × Int} (h : e ∈ putA A b x) : e ∈ A ∨ e = (b, x) := by
  unfold putA at h
  split at h
  · obtain ⟨a, ha, rfl⟩ := List.mem_map.mp h
    split
    · rename_i c
      rw [c]
      exact .inr rfl
    · exact .inl ha
  · rcases List.mem_append.mp h with h | h
    · exact .inl h
    · exact .inr (List.mem_singleton.mp h)
theorem putA_len (A : Asc) (b : BS) (x : Int × Int) : (putA A b x).length ≤ A.length + 1 := by
  unfold putA
  split
  · rw [List.length_map]; omega
  · rw [List.length_append]; exact Nat.le_refl _
theorem addA_nodup {p : Int} {A : Asc} (nd : (A.map (·.1)).Nodup) (b : BS) (x : Int × Int) : ((addA p A b x).map (·.1)).Nodup := putA_nodup nd _ _
theorem sumA_snoc (p : Int) (L : Asc) (e : BS × Int × Int) : sumA p (L ++ [e]) = addA p (sumA p L) e.1 e.2 := by
  unfold sumA
  rw [List.foldl_append]
  rfl
theorem sumA_nodup (p : Int) (L : Asc) : ((sumA p L).map (·.1)).Nodup := by
  induction L using rev_ind with
  | h0 => exact List.nodup_nil
  | h1 L e ih =>
    rw [sumA_snoc]
    exact addA_nodup ih _ _
theorem sumA_len (p : Int) (L : Asc) : (sumA p L).length ≤ L.length := by
  induction L using rev_ind with
  | h0 => exact Nat.le_refl _
  | h1 L e ih =>
    rw [sumA_snoc, List.length_append]
    have := putA_len (sumA p L) e.1 (addN p (numA (sumA p L) e.1) e.2)
    show (putA _ _ _).length ≤ _
    show _ ≤ L.length + 1
    omega
/-- all its diagrams have N points -/
def GA (N : Nat) (A : Asc) : Prop := ∀ e ∈ A, GD N e.1
theorem putA_ga {N : Nat} {A : Asc} (h : GA N A) {b : BS} (hb : GD N b) (x : Int × Int) : GA N (putA A b x) := fun e he => by
  rcases putA_mem he with he | rfl
  · exact h e he
  · exact hb
theorem sumA_ga {N : Nat} {p : Int} {L : Asc} (h : GA N L) : GA N (sumA p L) := by
  induction L using rev_ind with
  | h0 => exact fun e he => nomatch he
  | h1 L e ih =>
    rw [sumA_snoc]
    exact putA_ga (ih fun x hx => h x (List.mem_append_left _ hx)) (h e (List.mem_append_right _ (.head _))) _
/-- bounds: so many numbers added, each at most M -/
def NA (p : Int) (M D : Nat) (A : Asc) : Prop := ∀ e ∈ A, NB p M D e.2
theorem nb_zero {p : Int} {M D : Nat} (hp : p = 0 ∨ p ∈ primes) : NB p M D (0, 1) := by
  refine ⟨?_, fun _ => ⟨Nat.zero_le _, Int.one_dvd _⟩⟩
  unfold isN
  by_cases c : p = 0
  · rw [if_pos c]
    decide
  · have := prime_pos (hp.resolve_left c)
    rw [if_neg c, if_pos rfl, if_pos (by decide)]
    exact decide_eq_true (by omega)
theorem numA_nb {p : Int} {M D : Nat} {A : Asc} (hp : p = 0 ∨ p ∈ primes) (h : NA p M D A) (b : BS) : NB p M D (numA A b) := by
  unfold numA
  cases e : getA A b with
  | none => exact nb_zero hp
  | some x => exact h _ (getA_mem e)
theorem addA_na {p : Int} {M M' D : Nat} {A : Asc} (hp : p = 0 ∨ p ∈ primes) (hD : 0 < D) (h : NA p M D A) {b : BS} {x : Int × Int} (hx : NB p M' D x) : NA p (M + M') D (addA p A b x) := fun e he => by
  rcases putA_mem he with he | rfl
  · exact (h e he).more (by omega)
  · exact addN_nb hp hD (numA_nb hp h b) hx
theorem sumA_na {p : Int} {M D : Nat} {L : Asc} (hp : p = 0 ∨ p ∈ primes) (hD : 0 < D) (h : NA p M D L) : NA p (L.length * M) D (sumA p L) := by
  induction L using rev_ind with
  | h0 => exact fun e he => nomatch he
  | h1 L e ih =>
    rw [sumA_snoc, List.length_append]
    have := addA_na (b := e.1) hp hD (ih fun x hx => h x (List.mem_append_left _ hx)) (h e (List.mem_append_right _ (.head _)))
    rw [show (L.length + [e].length) * M = L.length * M + M by show (L.length + 1) * M = _; rw [Nat.add_mul, Nat.one_mul]]
    exact this
/-! the order of the terms -/
def leP (N : Nat) (a b : BS × Int × Int) : Bool := decide (labL a.1 N ≤ labL b.1 N)
def nzA (e : BS × Int × Int) : Bool := decide (e.2.1 ≠ 0)
def norm (N : Nat) (A : Asc) : Asc := (A.mergeSort (leP N)).filter nzA
theorem leP_sorted (N : Nat) (A : Asc) : (A.mergeSort (leP N)).Pairwise fun a b => leP N a b = true :=
  List.pairwise_mergeSort (le := leP N) (fun a b c x y => decide_eq_true (List.le_trans (of_decide_eq_true x) (of_decide_eq_true y))) (fun a b => by
    unfold leP
    rw [Bool.or_eq_true, decide_eq_true_eq, decide_eq_true_eq]
    exact List.le_total _ _) A
theorem srt_one {N : Nat} {l l' : Asc} (pm : l.Perm l') (h1 : l.Pairwise fun a b => leP N a b = true) (h2 : l'.Pairwise fun a b => leP N a b = true) (g : GA N l) (nd : (l.map (·.1)).Nodup) : l = l' := by
  refine List.Perm.eq_of_pairwise (le := fun a b => leP N a b = true) (fun a b ha hb x y => ?_) h1 h2 pm
  have e := List.le_antisymm (of_decide_eq_true x) (of_decide_eq_true y)
  have e1 : a.1 = b.1 := (g a ha).inj (g b (pm.mem_iff.mpr hb)) e
  have z1 := getA_of nd ha
  have z2 := getA_of nd (pm.mem_iff.mpr hb)
  rw [e1] at z1
  exact Prod.ext e1 (Option.some.inj (z1.symm.trans z2))
theorem norm_filter {N : Nat} {A : Asc} (g : GA N A) (nd : (A.map (·.1)).Nodup) : norm N A = (A.filter nzA).mergeSort (leP N) := by
  have pm : (norm N A).Perm ((A.filter nzA).mergeSort (leP N)) := ((List.mergeSort_perm A (leP N)).filter _).trans (List.mergeSort_perm _ _).symm
  refine srt_one pm ((leP_sorted N A).filter _) (leP_sorted N _) (fun e he => g e ?_) ?_
  · exact (List.mergeSort_perm A (leP N)).mem_iff.mp (List.mem_filter.mp he).1
  · refine List.Nodup.sublist (List.filter_sublist.map _) ?_
    exact ((List.mergeSort_perm A (leP N)).map _).nodup_iff.mpr nd
theorem norm_perm (N : Nat) (A : Asc) : (norm N A).Perm (A.filter nzA) := (List.mergeSort_perm A (leP N)).filter _
theorem putA_new {A : Asc} {b : BS} {x : Int × Int} (h : getA A b = none) : putA A b x = A ++ [(b, x)] := by
  unfold putA
  rw [h]
  rfl
theorem getA_no {A : Asc} {b : BS} (h : b ∉ A.map (·.1)) : getA A b = none := by
  cases e : getA A b with
  | none => rfl
  | some x => exact absurd (List.mem_map_of_mem (f := (·.1)) (getA_mem e)) h
/-- the one at i is not among those ahead of it -/
theorem ahead {S : Asc} (nd : (S.map (·.1)).Nodup) {i : Nat} {e : BS × Int × Int} (he : S[i]? = some e) (q : BS × Int × Int → Bool) : getA ((S.take i).filter q) e.1 = none := by
  refine getA_no fun m => ?_
  obtain ⟨z, hz, ez⟩ := List.mem_map.mp m
  have hz := (List.mem_filter.mp hz).1
  obtain ⟨j, hj, ej⟩ := List.mem_iff_getElem.mp hz
  rw [List.length_take] at hj
  have hi := (List.getElem?_eq_some_iff.mp he).1
  rw [List.getElem_take] at ej
  have e1 : (S.map (·.1))[j]? = some e.1 := by rw [List.getElem?_map, List.getElem?_eq_getElem (by omega), ej]; exact congrArg some ez
  have e2 : (S.map (·.1))[i]? = some e.1 := by rw [List.getElem?_map, he]; rfl
  have := (List.getElem?_inj (by rw [List.length_map]; omega) nd).mp (e1.trans e2.symm)
  omega

theorem op_neDK {X : Cx} {K : PySem.W.Frag} (hK : X.K = K) (hu : X.A.units + 64 < cLine) : OpR X (compareOp .NotEq) (rNeD K) := by
  subst hK
  exact op_neD hu
theorem cut2 {a b c : V} : cutV [a, b, c] none (some 2) = [a, b] := rfl
def dP2 (a b : Int) : PyData := .tuple [.int a, .int b]
theorem dP2_shaped (a b : Int) : SeqAt.shaped (dP2 a b) = true := by
  show (PyData.canLay0 (dP2 a b) && decide (PyData.depth (dP2 a b) ≤ 64)) = true
  unfold dP2
  simp [PyData.canLay0, PyData.canLayAll0, PyData.depth, PyData.depthAll]
theorem eqv_P2 (a b c d : Int) : PyData.eqv (dP2 a b) (dP2 c d) = decide (a = c ∧ b = d) := by
  unfold dP2
  simp only [PyData.eqv, PyData.eqvAll]
  by_cases h1 : a = c
  · by_cases h2 : b = d
    · subst h1 h2
      simp
    · simp [h2]
  · simp [h1]
def okSz (n m : Int) : Prop := 0 ≤ n ∧ 0 ≤ m ∧ n + m ≤ 8
section
variable {P : Program} {w : World} {K : PySem.W.Frag} {mg : Str → Option Value} {base : Heap}
/-! ### check_sum_size, _check_points -/
def spSumSize (CB : Addr) : Sp := fun vs H Q E => ∃ n m : Int, vs = [.int n, .int m] ∧ (okSz n m → Q .non H) ∧ (¬ okSz n m → E (.ref CB) none H)
theorem ok_check_sum_size {f CB : Addr} {fd : FuncData} {t8 : Tok} (F : Fun K "check_sum_size" "check_sum_size" s_check_sum_size f fd) (T : ErrC K mg "BadNumber" CB) (m_MOST_SUM_POINTS : mg "MOST_SUM_POINTS" = some (.int 8 t8)) : FnOk P w K mg base (L2N.CX P w) 1 f fd ["n", "m"] (spSumSize CB) := by
  obtain ⟨gc_BadNumber, x_BadNumber, kc_BadNumber, bc_BadNumber, tc_BadNumber⟩ := T
  have r_MOST_SUM_POINTS : RelV (.int 8) (.int 8 t8) := ⟨_, rfl⟩
  refine F.okXN sc_check_sum_size (fun vs H Q E h => ?_) (fun cdv A outer s H vs Q E hr h => ?_)
  · obtain ⟨n, m, rfl, _⟩ := h
    rfl
  · obtain ⟨n, m, rfl, q1, q2⟩ := h
    refine ⟨_, (pss_one (ps_if (L2.PW.pt (pw_or (pt_cmpR op_lt (pv 0) pe_int (nomark _)) (pw_or (pt_cmpR op_lt (pv 1) pe_int (nomark _)) (pw_or1 (pt_cmpR op_gt (pe_op op_add (pv 0) (pv 1)) (pe_glob rfl m_MOST_SUM_POINTS r_MOST_SUM_POINTS) (nomark _)))))) (pss_one (L2N.ps_raise rfl (L2N.takes_of rfl rfl rfl rfl) (L2N.pmk_own PySem.F.excBase_ValueError x_BadNumber gc_BadNumber kc_BadNumber (raises_own bc_BadNumber tc_BadNumber) rfl))) pss_nil)), ?_⟩
    unfold okSz at q1 q2
    refine ⟨_, rfl, _, _, rfl, rfl, _, rfl, ?_⟩
    by_cases c0 : n < 0
    · rw [decide_eq_true c0]
      exact iteT (q2 (by omega))
    rw [decide_eq_false c0]
    refine iteF ⟨_, rfl, _, _, rfl, rfl, _, rfl, ?_⟩
    by_cases c1 : m < 0
    · rw [decide_eq_true c1]
      exact iteT (q2 (by omega))
    rw [decide_eq_false c1]
    refine iteF ⟨_, rfl, _, rfl, _, _, rfl, rfl, _, _, rfl, rfl, _, rfl, ?_⟩
    by_cases c2 : n + m > 8
    · exact if_pos_of (decide_eq_true c2) (q2 (by omega))
    · exact if_neg_of (fun z => c2 (of_decide_eq_true z)) (q1 (by omega))
def spCheckPts (CD CB : Addr) : Sp := fun vs H Q E => ∃ (n m : Int) (v : V) (k q : Int) (cs : List (List Int)), vs = [.int n, .int m, v] ∧ DGv H v k q cs ∧ DgOk k q cs ∧ (¬ IsDg k q cs → ∀ H', Same H H' → E (.ref CD) none H') ∧
  (IsDg k q cs → ¬ (k = n ∧ q = m) → ∀ H', Same H H' → E (.ref CB) none H') ∧ (IsDg k q cs → k = n → q = m → ∀ H', Same H H' → Q .non H')
theorem ok_check_points_ {f CB CD : Addr} {fd : FuncData} (F : Fun K "_check_points" "_check_points" s_check_points_ f fd) (T : ErrC K mg "BadNumber" CB)
    {a_check_diagram : Addr} {fd_check_diagram : FuncData} (G_check_diagram : FnOk P w K mg base (L2N.CX P w) 3 a_check_diagram fd_check_diagram ["diagram"] (spCheckDiagram CD)) (g_check_diagram : mg "check_diagram" = some (.ref a_check_diagram)) (k_check_diagram : PySem.W.keepIn K (.ref a_check_diagram) = true) (b_check_diagram : Binds K fd_check_diagram ["diagram"] []) : FnOk P w K mg base (L2N.CX P w) 4 f fd ["n", "m", "diagram"] (spCheckPts CD CB) := by
  obtain ⟨gc_BadNumber, x_BadNumber, kc_BadNumber, bc_BadNumber, tc_BadNumber⟩ := T
  refine F.okXN sc_check_points_ (fun vs H Q E h => ?_) (fun cdv A outer s H vs Q E hr h => ?_)
  · obtain ⟨n, m, v, k, q, cs, rfl, _⟩ := h
    rfl
  · obtain ⟨n, m, v, k, q, cs, rfl, d1, o1, e1, e2, qq⟩ := h
    refine ⟨_, (pss_cons (ps_expr (pe_call G_check_diagram (hr.mono (by decide)) rfl g_check_diagram k_check_diagram b_check_diagram .nil (L2N.passes_call (L2N.takes_of rfl rfl rfl rfl) (fun _ _ _ _ h => h)) (pa_cons (pv 2) pa_nil)))
  (pss_one (ps_if (pt_cmpR (op_neD (room64 hr)) (pe_slice sl_tup (pv 2) po_none (po_some pe_int)) (pe_tup (pa_cons (pv 0) (pa_cons (pv 1) pa_nil))) (nomark _)) (pss_one (L2N.ps_raise rfl (L2N.takes_of rfl rfl rfl rfl) (L2N.pmk_own PySem.F.excBase_ValueError x_BadNumber gc_BadNumber kc_BadNumber (raises_own bc_BadNumber tc_BadNumber) rfl))) pss_nil))), ?_⟩
    by_cases g1 : IsDg k q cs
    rotate_left
    · exact ⟨_, rfl, v, k, q, cs, rfl, d1, o1, fun H1 s1 => ⟨fun g => absurd g g1, fun _ => e1 g1 H1 s1⟩⟩
    refine ⟨_, rfl, v, k, q, cs, rfl, d1, o1, fun H1 s1 => ⟨fun _ => ?_, fun nd => absurd g1 nd⟩⟩
    obtain ⟨t1, vb1, rfl, ht1, _⟩ := id (d1.same s1)
    refine ⟨_, rfl, 2, rfl, t1, _, rfl, .inl (.inl ht1), (show ¬ (HT.sIx 3 0 none = 0 ∧ HT.sIx 3 3 (some 2) = 3) from by decide), fun p1 np1 => ?_⟩
    have w1 := same_upd (o := .tup (cutV [.int k, .int q, vb1] none (some 2))) np1
    refine ⟨_, rfl, _, rfl, (by show 2 ≤ sizeLine; decide), fun p2 np2 => ?_⟩
    have w2 := same_upd (o := .tup [.int n, .int m]) np2
    have s3 := Same.trans s1 (Same.trans w1 w2)
    refine ⟨dP2 k q, dP2 n m, .tup (.inl (.inl (w2 _ _ upd_same))) (.cons (.int k) (.cons (.int q) .nil)), .tup (.inl (.inl upd_same)) (.cons (.int n) (.cons (.int m) .nil)), dP2_shaped _ _, dP2_shaped _ _, ?_⟩
    rw [eqv_P2]
    by_cases c : k = n ∧ q = m
    · rw [decide_eq_true c]
      exact ⟨_, rfl, if_neg_of (by decide) (qq g1 c.1 c.2 _ s3)⟩
    · rw [decide_eq_false c]
      exact ⟨_, rfl, if_pos_of (by decide) (e2 g1 c _ s3)⟩
end

/-! ### a dict of diagrams and their numbers, told by a list -/
def EntA (K : PySem.W.Frag) (H : Hp) (n m : Int) (kvs : KD.Ents) (A : Asc) : Prop := Paired (fun p e => p.1 = (n, m, e.1) ∧ ∃ t, p.2.2 = V.ref t ∧ SqT K H t [.int e.2.1, .int e.2.2]) kvs A
section
variable {K : PySem.W.Frag} {H H' : Hp} {n m : Int} {kvs : KD.Ents} {A : Asc}
theorem EntA.mono (s : ∀ t xs, SqT K H t xs → SqT K H' t xs) (h : EntA K H n m kvs A) : EntA K H' n m kvs A := Paired.mapP h fun _ _ ⟨e, t, et, ht⟩ => ⟨e, t, et, s _ _ ht⟩
theorem EntA.same (s : Same H H') (h : EntA K H n m kvs A) : EntA K H' n m kvs A := h.mono fun _ _ h => sqT_same s h
theorem EntA.val (h : EntA K H n m kvs A) (b : BS) : match getA A b with | none => KD.valD kvs (n, m, b) = none | some x => ∃ t, KD.valD kvs (n, m, b) = some (.ref t) ∧ SqT K H t [.int x.1, .int x.2] := by
  unfold EntA at h
  induction h with
  | nil => rfl
  | @cons p e ps es h1 _ ih =>
    obtain ⟨ek, t, et, ht⟩ := h1
    rw [getA_cons, KD.valD_cons]
    by_cases c : e.1 = b
    · rw [if_pos c, if_pos (by rw [ek, c])]
      exact ⟨t, congrArg some et, ht⟩
    · rw [if_neg c, if_neg (fun z => c (by rw [ek] at z; exact congrArg (fun q : KD.DK => q.2.2) z))]
      exact ih
theorem EntA.isS (h : EntA K H n m kvs A) (b : BS) : (KD.valD kvs (n, m, b)).isSome = (getA A b).isSome := by
  have := h.val b
  cases e : getA A b with
  | none =>
    rw [e] at this
    rw [show KD.valD kvs (n, m, b) = none from this]
    rfl
  | some x =>
    rw [e] at this
    obtain ⟨t, e2, _⟩ := this
    rw [e2]
    rfl
theorem EntA.put (h : EntA K H n m kvs A) {b : BS} (q : Addr) {t : Addr} {x : Int × Int} (ht : SqT K H t [.int x.1, .int x.2]) : EntA K H n m (KD.putD kvs (n, m, b) q (.ref t)) (putA A b x) := by
  unfold KD.putD putA
  rw [h.isS b]
  unfold EntA at h ⊢
  split
  · rename_i c
    clear c
    induction h with
    | nil => exact .nil
    | @cons p e ps es h1 _ ih =>
      obtain ⟨ek, t1, et, ht1⟩ := h1
      refine .cons ?_ ih
      dsimp only
      by_cases c : e.1 = b
      · rw [if_pos c, if_pos (by rw [ek, c])]
        exact ⟨ek, t, rfl, ht⟩
      · rw [if_neg c, if_neg (fun z => c (by rw [ek] at z; exact congrArg (fun q : KD.DK => q.2.2) z))]
        exact ⟨ek, t1, et, ht1⟩
  · exact paired_app h (.cons ⟨rfl, t, rfl, ht⟩ .nil)
theorem keys_put {k : KD.DK} {q : Addr} {v : V} (KO : KD.KeysOk H kvs) (hq : KD.IsK H k q) : KD.KeysOk H (KD.putD kvs k q v) := fun p hp => by
  unfold KD.putD at hp
  split at hp
  · obtain ⟨a, ha, rfl⟩ := List.mem_map.mp hp
    split
    · exact KO a ha
    · exact KO a ha
  · rcases List.mem_append.mp hp with hp | hp
    · exact KO p hp
    · rw [List.mem_singleton.mp hp]
      exact hq
theorem isK_dg {v : V} {bs : BS} (d : DGv H v n m bs) : ∃ q, v = .ref q ∧ KD.IsK H (n, m, bs) q := by
  obtain ⟨t, vb, rfl, ht, tb, ts, rfl, htb, pr⟩ := d
  exact ⟨t, rfl, tb, ts, ht, htb, pr⟩
theorem dg_isK {q : Addr} {bs : BS} (h : KD.IsK H (n, m, bs) q) : DGv H (.ref q) n m bs := by
  obtain ⟨tb, ts, ht, htb, pr⟩ := h
  exact ⟨q, _, rfl, ht, tb, ts, rfl, htb, pr⟩
theorem sqT_upd {D a : Addr} {φ : Heap → Prop} {o : HO} {xs : List V} (hD : H D = some (.ext φ)) (h : SqT K H a xs) : SqT K (upd H D o) a xs := by
  rcases h with (h | ⟨ob, h⟩) | h
  · exact .inl (.inl (by rw [upd_ne (fun z => by rw [z, hD] at h; exact nomatch h)]; exact h))
  · exact .inl (.inr ⟨ob, by rw [upd_ne (fun z => by rw [z, hD] at h; exact nomatch h)]; exact h⟩)
  · exact .inr h
theorem tup_upd {D : Addr} {φ : Heap → Prop} {o : HO} (hD : H D = some (.ext φ)) : ∀ b xs, H b = some (.tup xs) → upd H D o b = some (.tup xs) := fun b xs h => by
  rw [upd_ne (fun z => by rw [z, hD] at h; exact nomatch h)]
  exact h
theorem keys_nil : KD.KeysOk H [] := fun p hp => nomatch hp
theorem entA_nil : EntA K H n m [] [] := .nil
theorem keys_len {k : KD.DK} {q : Addr} {v : V} : (KD.putD kvs k q v).length ≤ kvs.length + 1 := KD.putD_len _ _ _ _
end
/-- a sum: an instance, and the list of its terms -/
def SumV (K : PySem.W.Frag) (P : Program) (w : World) (CS : Addr) (H : Hp) (a : Addr) (x : Addr) (n m : Int) (A : Asc) : Prop :=
  ∃ dx Dn kvs, H a = some (.ins CS dx [("world", .ref x), ("n", .int n), ("m", .int m), ("_numbers", .ref Dn)]) ∧ KD.NZ P w H Dn kvs ∧ KD.KeysOk H kvs ∧ EntA K H n m kvs A
theorem SumV.same {K : PySem.W.Frag} {P : Program} {w : World} {CS : Addr} {H H' : Hp} {a x : Addr} {n m : Int} {A : Asc} (s : Same H H') (h : SumV K P w CS H a x n m A) : SumV K P w CS H' a x n m A := by
  obtain ⟨dx, Dn, kvs, h1, h2, h3, h4⟩ := h
  exact ⟨dx, Dn, kvs, s _ _ h1, h2.same s, h3.same fun b xs h => s _ _ h, h4.same s⟩
/-- what the class has -/
structure SumC (K : PySem.W.Frag) (mg : Str → Option Value) (CS : Addr) : Prop where
  m : mg "Sum" = some (.ref CS)
  cl : Cls K CS
  nw : NoAttr K CS "world"
  nn : NoAttr K CS "n"
  nm : NoAttr K CS "m"
  nk : NoAttr K CS "_numbers"

/-! ### sorted by labels -/
theorem alike_b (b b' : List Int) : PySem.W.alike (dT b) (dT b') = true := by
  show PySem.W.alike (.tuple (b.map .int)) (.tuple (b'.map .int)) = true
  rw [PySem.W.alike]
  exact PySem.W.alike_ints b b'
theorem alike_l (b b' : List Int) : PySem.W.alike (dL b) (dL b') = true := by
  show PySem.W.alike (.list (b.map .int)) (.list (b'.map .int)) = true
  rw [PySem.W.alike]
  exact PySem.W.alike_ints b b'
theorem alike_bs : ∀ (bs cs : List (List Int)), PySem.W.alikeAll (bs.map dT) (cs.map dT) = true
  | [], _ => by rw [List.map_nil, PySem.W.alikeAll]
  | _ :: _, [] => by rw [List.map_nil, List.map_cons, PySem.W.alikeAll]
  | b :: bs, c :: cs => by
    rw [List.map_cons, List.map_cons, PySem.W.alikeAll, alike_b, alike_bs bs cs]
    rfl
theorem alike_dg (n m : Int) (bs cs : BS) : PySem.W.alike (dDG n m bs) (dDG n m cs) = true := by
  unfold dDG dTT
  simp only [PySem.W.alike, PySem.W.alikeAll, alike_bs, Bool.and_true]
theorem eqv_l {x y : List Int} : PyData.eqv (dL x) (dL y) = decide (x = y) := by
  show PyData.eqv (.list (x.map .int)) (.list (y.map .int)) = _
  simp only [PyData.eqv]
  have : ∀ x y : List Int, PyData.eqvAll (x.map PyData.int) (y.map PyData.int) = decide (x = y) := by
    intro x
    induction x with
    | nil => intro y; cases y <;> simp [PyData.eqvAll]
    | cons a x ih =>
      intro y
      cases y with
      | nil => simp [PyData.eqvAll]
      | cons b y =>
        simp only [List.map_cons, PyData.eqvAll, PyData.eqv, ih y]
        by_cases h1 : a = b
        · by_cases h2 : x = y
          · simp [h1, h2]
          · simp [h1, h2]
        · simp [h1]
  exact this x y
def encP (N : Nat) (n m : Int) (e : BS × Int × Int) : PyData := .tuple [dL (labL e.1 N), dDG n m e.1]
theorem lt_l (x y : List Int) : PySem.W.dataLt (dL x) (dL y) = decide (x < y) := by
  show PySem.W.dataLt (.list (x.map .int)) (.list (y.map .int)) = _
  rw [PySem.W.dataLt_list]
  exact PySem.W.dataLt_ints x y
theorem le_encP {N : Nat} {n m : Int} {a b : BS × Int × Int} (ha : GD N a.1) (hb : GD N b.1) : PySem.W.dataLe false (encP N n m) a b = leP N a b := by
  show (!PySem.W.dataLt (encP N n m b) (encP N n m a)) = decide _
  unfold encP
  rw [PySem.W.dataLt_pair (alike_l _ _) (alike_dg n m b.1 a.1), eqv_l]
  by_cases c : labL b.1 N = labL a.1 N
  · have e := hb.inj ha c
    rw [decide_eq_true c, if_pos rfl, e, PySem.W.dataLt_self]
    rw [decide_eq_true (show labL a.1 N ≤ labL a.1 N from List.le_refl _)]
    simp
  · rw [decide_eq_false c, if_neg Bool.false_ne_true, lt_l]
    by_cases h : labL b.1 N < labL a.1 N
    · have h' : ¬ labL a.1 N ≤ labL b.1 N := fun r => List.not_lt.mpr r h
      simp [h, h']
    · have h' : labL a.1 N ≤ labL b.1 N := List.not_lt.mp h
      simp [h, h']
theorem sort_encP {N : Nat} {n m : Int} {A : Asc} (g : GA N A) : A.mergeSort (PySem.W.dataLe false (encP N n m)) = A.mergeSort (leP N) := by
  have h := List.map_mergeSort (r := PySem.W.dataLe false (encP N n m)) (s := leP N) (f := id) (l := A) fun a ha b hb => le_encP (g a ha) (g b hb)
  rwa [List.map_id, List.map_id] at h
theorem EntA.num {K : PySem.W.Frag} {H : Hp} {n m : Int} {kvs : KD.Ents} {A : Asc} (h : EntA K H n m kvs A) (b : BS) {aZ : Addr} (hz : SqT K H aZ [.int 0, .int 1]) : ∃ t, (KD.valD kvs (n, m, b)).getD (.ref aZ) = .ref t ∧ SqT K H t [.int (numA A b).1, .int (numA A b).2] := by
  have := h.val b
  unfold numA
  cases e : getA A b with
  | none =>
    rw [e] at this
    rw [show KD.valD kvs (n, m, b) = none from this]
    exact ⟨aZ, rfl, hz⟩
  | some x =>
    rw [e] at this
    obtain ⟨t, e2, ht⟩ := this
    rw [e2]
    exact ⟨t, rfl, ht⟩
theorem nb_bounds {p : Int} {M D : Nat} {x : Int × Int} (hp : p = 0 ∨ p ∈ primes) (hD : 0 < D) (hD2 : D ≤ 30000) (hM : M ≤ 1000000000000) (h : NB p M D x) : x.1.natAbs < 2 ^ 62 ∧ x.2.natAbs ≤ 30000 ∧ 0 < x.2 := by
  by_cases c : p = 0
  · obtain ⟨h1, h2⟩ := h.sm c
    have h3 : 0 < x.2 := isN_z (by have := h.ok; rwa [c] at this)
    have h4 : x.2 ≤ (D : Int) := Int.le_of_dvd (by omega) h2
    have h5 : x.2.natAbs ≤ 30000 := by omega
    have h6 : M * x.2.natAbs ≤ 1000000000000 * 30000 := Nat.mul_le_mul hM h5
    exact ⟨by omega, h5, h3⟩
  · have := prime_pos (hp.resolve_left c)
    obtain ⟨a, b, e⟩ := isN_p c h.ok
    rw [a]
    exact ⟨by omega, by decide, by decide⟩
theorem nb_good {p : Int} {M M' D : Nat} {x y : Int × Int} (hp : p = 0 ∨ p ∈ primes) (hx : NB p M D x) (hy : NB p M' D y) : ¬ bad p (x.2 * y.2) := by
  unfold bad
  by_cases c : p = 0
  · have h1 : 0 < x.2 := isN_z (by have := hx.ok; rwa [c] at this)
    have h2 : 0 < y.2 := isN_z (by have := hy.ok; rwa [c] at this)
    have := Int.mul_pos h1 h2
    omega
  · have := prime_pos (hp.resolve_left c)
    obtain ⟨a, _, _⟩ := isN_p c hx.ok
    obtain ⟨b, _, _⟩ := isN_p c hy.ok
    rw [a, b, Int.mul_one, Int.emod_eq_of_lt (by decide) (by omega)]
    omega
theorem nb_mul {x y : Int × Int} (hx : x.2.natAbs ≤ 30000) (hy : y.2.natAbs ≤ 30000) : (x.2 * y.2).natAbs < 1073741824 := by
  rw [Int.natAbs_mul]
  exact Nat.lt_of_le_of_lt (Nat.mul_le_mul hx hy) (by decide)
theorem zero_one {p v : Int} (h : isN p 0 v = true) : v = 1 := by
  by_cases c : p = 0
  · rw [c] at h
    have h0 := isN_z h
    unfold isN at h
    rw [if_pos rfl, if_pos (by omega)] at h
    have h := of_decide_eq_true h
    unfold gI at h
    rw [show (0 : Int).natAbs = 0 from rfl, Nat.gcd_zero_left] at h
    omega
  · exact (isN_p c h).1
theorem nz_is {p : Int} {e : BS × Int × Int} (h : isN p e.2.1 e.2.2 = true) : (!decide (e.2.1 = 0 ∧ e.2.2 = 1)) = nzA e := by
  unfold nzA
  by_cases c : e.2.1 = 0
  · have h1 : e.2.2 = 1 := zero_one (p := p) (by rw [c] at h; exact h)
    rw [decide_eq_true ⟨c, h1⟩]
    simp [c]
  · simp [c]

/-- a term as it is given: a diagram, a number -/
structure TermD where
  k : Int
  q : Int
  cs : BS
  u : Int
  v : Int
def TermP (K : PySem.W.Frag) (H : Hp) (t : V) (e : TermD) : Prop := ∃ ta vd na, t = .ref ta ∧ SqT K H ta [vd, .ref na] ∧ DGv H vd e.k e.q e.cs ∧ SqT K H na [.int e.u, .int e.v]
theorem TermP.same {K : PySem.W.Frag} {H H' : Hp} {t : V} {e : TermD} (s : Same H H') (h : TermP K H t e) : TermP K H' t e := by
  obtain ⟨ta, vd, na, e1, h1, h2, h3⟩ := h
  exact ⟨ta, vd, na, e1, sqT_same s h1, h2.same s, sqT_same s h3⟩
def toT (n m : Int) (e : BS × Int × Int) : TermD := ⟨n, m, e.1, e.2.1, e.2.2⟩
/-- the first term that is not one ends the making -/
def Stops (p n m : Int) (CN CD CB : Addr) (H : Hp) (E : XK) (e : TermD) : Prop := DgOk e.k e.q e.cs ∧ ((¬ IsDg e.k e.q e.cs ∧ ∀ H', Same H H' → E (.ref CD) none H') ∨ (IsDg e.k e.q e.cs ∧ ¬ (e.k = n ∧ e.q = m) ∧ ∀ H', Same H H' → E (.ref CB) none H') ∨
  (IsDg e.k e.q e.cs ∧ e.k = n ∧ e.q = m ∧ isN p e.u e.v = false ∧ ∀ H', Same H H' → E (.ref CN) none H'))
def spSumInit (K : PySem.W.Frag) (P : Program) (w : World) (CS CW CN CD CB : Addr) : Sp := fun vs H Q E => ∃ (a dx x : Addr) (p d n m : Int) (L : Addr) (ts : List V), vs = [.ref a, .ref x, .int n, .int m, .ref L] ∧ H a = some (.ins CS dx []) ∧ SqT K H x [.int p, .int d] ∧
  (isW p d = false → E (.ref CW) none H) ∧ (isW p d = true → (¬ okSz n m → E (.ref CB) none H) ∧ (okSz n m → ∃ (gs : Asc) (rest : List TermD) (M D : Nat), SqL K H L ts ∧ Paired (TermP K H) ts (gs.map (toT n m) ++ rest) ∧ GA (n + m).toNat gs ∧ NA p M D gs ∧
    0 < D ∧ D ≤ 30000 ∧ gs.length * M + M ≤ 1000000000000 ∧ ts.length ≤ 1000 ∧
    (∀ e r, rest = e :: r → Stops p n m CN CD CB H E e) ∧
    (rest = [] → ∀ H', SameBut a H H' → SumV K P w CS H' a x n m (norm (n + m).toNat (sumA p gs)) → Q .non H')))
def fl1 (x : Addr) : List (Str × V) := [("world", V.ref x)]
def fl2 (x : Addr) (n : Int) : List (Str × V) := [("world", V.ref x), ("n", .int n)]
def fl3 (x : Addr) (n m : Int) : List (Str × V) := [("world", V.ref x), ("n", .int n), ("m", .int m)]
def fl4 (x : Addr) (n m : Int) (D : Addr) : List (Str × V) := [("world", V.ref x), ("n", .int n), ("m", .int m), ("_numbers", .ref D)]
theorem putF_w {x : Addr} : putF "world" (.ref x) [] = fl1 x := rfl
theorem putF_n {x : Addr} {n : Int} : putF "n" (.int n) (fl1 x) = fl2 x n := if_neg (by decide +kernel)
theorem putF_m {x : Addr} {n m : Int} : putF "m" (.int m) (fl2 x n) = fl3 x n m := (if_neg (by decide +kernel)).trans (congrArg _ (if_neg (by decide +kernel)))
theorem putF_k {x : Addr} {n m : Int} {D : Addr} : putF "_numbers" (.ref D) (fl3 x n m) = fl4 x n m D := (if_neg (by decide +kernel)).trans (congrArg _ ((if_neg (by decide +kernel)).trans (congrArg _ (if_neg (by decide +kernel)))))
def OrdP (H : Hp) (n m : Int) (v : V) (e : BS × Int × Int) : Prop := ∃ t dl q, v = .ref t ∧ H t = some (.tup [.ref dl, .ref q]) ∧ H dl = some (.lst ((labL e.1 (n + m).toNat).map V.int)) ∧ KD.IsK H (n, m, e.1) q
theorem OrdP.same {H H' : Hp} {n m : Int} {v : V} {e : BS × Int × Int} (s : Same H H') (h : OrdP H n m v e) : OrdP H' n m v e := by
  obtain ⟨t, dl, q, e1, h1, h2, h3⟩ := h
  exact ⟨t, dl, q, e1, s _ _ h1, s _ _ h2, h3.same fun b xs h => s _ _ h⟩
def OrdQ (X : Addr) (H : Hp) (n m : Int) (v : V) (e : BS × Int × Int) : Prop := ∃ t dl q, v = .ref t ∧ dl ≠ X ∧ H t = some (.tup [.ref dl, .ref q]) ∧ H dl = some (.lst ((labL e.1 (n + m).toNat).map V.int)) ∧ KD.IsK H (n, m, e.1) q
theorem OrdQ.p {X : Addr} {H : Hp} {n m : Int} {v : V} {e : BS × Int × Int} (h : OrdQ X H n m v e) : OrdP H n m v e := by
  obtain ⟨t, dl, q, e1, _, h1, h2, h3⟩ := h
  exact ⟨t, dl, q, e1, h1, h2, h3⟩
theorem OrdP.dp {K : PySem.W.Frag} {H : Hp} {n m : Int} {v : V} {e : BS × Int × Int} (h : OrdP H n m v e) : Dp K H v (encP (n + m).toNat n m e) := by
  obtain ⟨t, dl, q, rfl, h1, h2, h3⟩ := h
  exact .tup (.inl (.inl h1)) (.cons (LP.dp ⟨dl, rfl, h2⟩) (.cons (dg_isK h3).dp .nil))
theorem enc_depth {n m : Int} {e : BS × Int × Int} (h : IsDg n m e.1) : (encP (n + m).toNat n m e).depth ≤ 60 := by
  have s := smL_tuple (ds := [dL (labL e.1 (n + m).toNat), dDG n m e.1]) (n := 3) (k := 1000000) fun D hD => by
    rcases List.mem_cons.mp hD with rfl | hD
    · have := smL_lab h
      exact ⟨this.lay, Nat.le_trans this.dep (by decide), this.sho, Nat.le_trans this.wgt (by decide)⟩
    · rw [List.mem_singleton.mp hD]
      exact smL_dg h
  exact Nat.le_trans s.dep (by decide)
section
variable {P : Program} {w : World} {K : PySem.W.Frag} {mg : Str → Option Value} {base : Heap}
theorem ok_Sum_init {f CS CW CN CB CD aZ : Addr} {fd : FuncData} (F : Fun K "__init__" "Sum.__init__" s_Sum_init f fd) (S_Sum : SumC K mg CS) (m_ZERO : mg "ZERO" = some (.ref aZ)) (tZ : ∀ H, SqT K H aZ [.int 0, .int 1]) (z_sorted : mg "sorted" = none)
    {a_check_world : Addr} {fd_check_world : FuncData} (G_check_world : FnOk P w K mg base (L2N.CX P w) 2 a_check_world fd_check_world ["world"] (spCheckWorld K CW)) (g_check_world : mg "check_world" = some (.ref a_check_world)) (k_check_world : PySem.W.keepIn K (.ref a_check_world) = true) (b_check_world : Binds K fd_check_world ["world"] [])
    {a_check_sum_size : Addr} {fd_check_sum_size : FuncData} (G_check_sum_size : FnOk P w K mg base (L2N.CX P w) 1 a_check_sum_size fd_check_sum_size ["n", "m"] (spSumSize CB)) (g_check_sum_size : mg "check_sum_size" = some (.ref a_check_sum_size)) (k_check_sum_size : PySem.W.keepIn K (.ref a_check_sum_size) = true) (b_check_sum_size : Binds K fd_check_sum_size ["n", "m"] [])
    {a_check_points_ : Addr} {fd_check_points_ : FuncData} (G_check_points_ : FnOk P w K mg base (L2N.CX P w) 4 a_check_points_ fd_check_points_ ["n", "m", "diagram"] (spCheckPts CD CB)) (g_check_points_ : mg "_check_points" = some (.ref a_check_points_)) (k_check_points_ : PySem.W.keepIn K (.ref a_check_points_) = true) (b_check_points_ : Binds K fd_check_points_ ["n", "m", "diagram"] [])
    {a_plus : Addr} {fd_plus : FuncData} (G_plus : FnOk P w K mg base (L2N.CX P w) 6 a_plus fd_plus ["world", "x", "y"] (spOp K CW CN CB fPlusA fTimesB)) (g_plus : mg "plus" = some (.ref a_plus)) (k_plus : PySem.W.keepIn K (.ref a_plus) = true) (b_plus : Binds K fd_plus ["world", "x", "y"] [])
    {a_labels : Addr} {fd_labels : FuncData} (G_labels : FnOk P w K mg base (L2N.CX P w) 4 a_labels fd_labels ["diagram"] (spLabels CD)) (g_labels : mg "labels" = some (.ref a_labels)) (k_labels : PySem.W.keepIn K (.ref a_labels) = true) (b_labels : Binds K fd_labels ["diagram"] []) :
    FnOk P w K mg base (L2N.CX P w) 7 f fd ["self", "world", "n", "m", "terms"] (spSumInit K P w CS CW CN CD CB) := by
  have r_ZERO : RelV (.ref aZ) (.ref aZ) := rfl
  refine F.okXN sc_Sum_init (fun vs H Q E h => ?_) (fun cdv A outer s H vs Q E hr h => ?_)
  · obtain ⟨a, dx, x, p, d, n, m, L, ts, rfl, _⟩ := h
    rfl
  · obtain ⟨a, dx, x, p, d, n, m, L, ts, rfl, ha, hx, qW, q⟩ := h
    refine ⟨_, (pss_cons (ps_expr (pe_call G_check_world (hr.mono (by decide)) rfl g_check_world k_check_world b_check_world .nil (L2N.passes_call (L2N.takes_of rfl rfl rfl rfl) (fun _ _ _ _ h => h)) (pa_cons (pv 1) pa_nil)))
  (pss_cons (ps_expr (pe_call G_check_sum_size (hr.mono (by decide)) rfl g_check_sum_size k_check_sum_size b_check_sum_size .nil (L2N.passes_call (L2N.takes_of rfl rfl rfl rfl) (fun _ _ _ _ h => h)) (pa_cons (pv 2) (pa_cons (pv 3) pa_nil))))
  (pss_cons (ps_set (i := 5) sc_Sum_init.nd rfl (.inr rfl) KD.pe_nnew)
  (Evl.pss_cut (ps_for (passes_of rfl) rfl (pi_list (pv 4)) (pg_tup rfl (pgs_cons (pg_name (i := 6) sc_Sum_init.nd rfl (.inl rfl)) (pgs_cons (pg_name (i := 7) sc_Sum_init.nd rfl (.inl rfl)) pgs_nil))) (pss_cons (ps_expr (pe_call G_check_points_ (hr.mono (by decide)) rfl g_check_points_ k_check_points_ b_check_points_ .nil (L2N.passes_call (L2N.takes_of rfl rfl rfl rfl) (fun _ _ _ _ h => h)) (pa_cons (pv 2) (pa_cons (pv 3) (pa_cons (pv 6) pa_nil)))))
  (pss_one (ps_asg (pe_call G_plus (hr.mono (by decide)) rfl g_plus k_plus b_plus .nil (L2N.passes_call (L2N.takes_of rfl rfl rfl rfl) (fun _ _ _ _ h => h)) (pa_cons (pv 1) (pa_cons (KD.pe_zgetd (room64 hr) (pv 5) (pv 6) (pe_glob rfl m_ZERO r_ZERO) ⟨by rfl, by rfl, by rfl, by rfl⟩) (pa_cons (pv 7) pa_nil)))) (pg_sub (pv 5) (pv 6) (KD.set_nd (room64 hr)))))))
  (Evl.pss_cut (ps_set (i := 8) sc_Sum_init.nd rfl (.inl rfl) (pe_callB (cr_sortedG (room64 hr)) (by rfl) z_sorted boot_sorted (pa_cons (pe_lc (own := [("diagram", 6)]) rfl sc_Sum_init.nd (KD.pi_zs (pv 5)) (blkOk_by (N := ["self", "world", "n", "m", "terms", "added", "diagram", "x", "ordered", "_"]) (sc := defScope s_Sum_init) (by first | decide +kernel | rfl)) (fun _ _ _ _ _ => (pg_name (i := 6) sc_Sum_init.nd rfl (.inl rfl))) (fun _ _ _ _ _ => pts_nil) (fun _ _ _ _ _ => (pe_tup (pa_cons (pe_call G_labels (hr.mono (by decide)) rfl g_labels k_labels b_labels .nil passLN (pa_cons (pv 6) pa_nil)) (pa_cons (pv 6) pa_nil))))) pa_nil)))
  (pss_cons (ps_fld (pv 0) (pv 1) rfl)
  (pss_cons (ps_fld (pv 0) (pv 2) rfl)
  (pss_cons (ps_fld (pv 0) (pv 3) rfl)
  (pss_one (ps_fld (pv 0) (KD.pe_still (KD.pe_dcz (own := [("_", 9), ("diagram", 6)]) (room64 hr) rfl sc_Sum_init.nd (pi_list (pv 8)) (blkOk_by (N := ["self", "world", "n", "m", "terms", "added", "diagram", "x", "ordered", "_"]) (sc := defScope s_Sum_init) (by first | decide +kernel | rfl)) (fun _ _ _ _ _ => (pg_tupK (n := 2) (K := K) rfl rfl (pgs_cons (pg_name (i := 9) sc_Sum_init.nd rfl (.inl rfl)) (pgs_cons (pg_name (i := 6) sc_Sum_init.nd rfl (.inl rfl)) pgs_nil)))) (fun _ _ _ _ _ => pts_one (pt_cmpR (op_neDK (K := K) rfl (room64 hr)) (KD.pe_zgetP (P := P) (w := w) rfl rfl (room64 hr) (pv 5) (pv 6) (fun _ _ => rfl)) (pe_glob rfl m_ZERO r_ZERO) (nomark _))) (fun _ _ _ _ _ => (pv 6)) (fun _ _ _ _ _ => (KD.pe_zgetP (P := P) (w := w) rfl rfl (room64 hr) (pv 5) (pv 6) (fun _ _ => rfl))))) rfl)))))))))), ?_⟩
    have szl : 20000 ≤ sizeLine := by decide
    refine ⟨_, rfl, x, p, d, rfl, hx, fun hW => ?_, qW⟩
    obtain ⟨qS, q⟩ := q hW
    by_cases hs : okSz n m
    rotate_left
    · exact ⟨_, rfl, _, rfl, n, m, rfl, fun z => absurd z hs, fun _ => qS hs⟩
    refine ⟨_, rfl, _, rfl, n, m, rfl, fun _ => ?_, fun z => absurd hs z⟩
    obtain ⟨gs, rest, M, Dn, hL, pT, ga, na, hD, hD2, hM, lts, qE, qQ⟩ := q hs
    clear q qS qW
    have hs' := hs
    unfold okSz at hs'
    obtain ⟨hp, _⟩ := isW_cases hW
    refine fun D nD => ?_
    have dgz : ∀ e ∈ gs, IsDg n m e.1 := fun e he => by
      obtain ⟨l, e1, hl⟩ := ga e he
      rw [e1]
      exact isDg_blocks (siz_iff.mpr ⟨by omega, by omega, by omega, by omega, by omega⟩) (by omega)
    refine ⟨fun σ H' => rest = [] ∧ ∃ v6 v7 kvs, σ = [some (.ref a), some (.ref x), some (.int n), some (.int m), some (.ref L), some (.ref D), v6, v7, none, none] ∧ Same H H' ∧ H' D = some (KD.NDict P w D kvs) ∧ KD.KeysOk H' kvs ∧ EntA K H' n m kvs (sumA p gs), ?_, ?_⟩
    · have w0 := same_upd (o := KD.NDict P w D []) nD
      refine ⟨_, rfl, L, rfl, ⟨_, sqL_same w0 hL⟩, for_list (K := K) (xs := ts) (fun i σ H' => i ≤ gs.length ∧ ∃ v6 v7 kvs, σ = [some (.ref a), some (.ref x), some (.int n), some (.int m), some (.ref L), some (.ref D), v6, v7, none, none] ∧ Same H H' ∧ H' D = some (KD.NDict P w D kvs) ∧ KD.KeysOk H' kvs ∧ EntA K H' n m kvs (sumA p (gs.take i)))
        ⟨Nat.zero_le _, none, none, [], rfl, w0, upd_same, keys_nil, entA_nil⟩ (fun i σ H' _ ⟨_, _, _, _, _, s', _⟩ => sqL_same s' hL) (fun i y σ H1 hy hP => ?_) (fun σ H1 hP => ?_)⟩
      · obtain ⟨hi, v6, v7, kvs, rfl, s1, hD1, KO, en⟩ := hP
        obtain ⟨e, ee, te⟩ := LiI.paired_get pT hy
        obtain ⟨ta, vd, nu, rfl, hta, dv, hnu⟩ := te.same s1
        refine ⟨ta, _, rfl, hta, rfl, _, _, rfl, _, _, rfl, rfl, ?_⟩
        by_cases hlt : i < gs.length
        · rw [List.getElem?_append_left (by rw [List.length_map]; exact hlt), List.getElem?_map] at ee
          obtain ⟨g, eg, rfl⟩ := Option.map_eq_some_iff.mp ee
          have mg' := List.mem_of_getElem? eg
          have dg := dgz g mg'
          have few := dg.few
          have dgok : DgOk n m g.1 := (few.more (by decide)).ok (by omega) (by omega)
          refine ⟨_, rfl, _, rfl, _, rfl, n, m, vd, n, m, g.1, rfl, dv, dgok, fun nd => absurd dg nd, fun _ ne => absurd ⟨rfl, rfl⟩ ne, fun _ _ _ H2 s2 => ?_⟩
          have s12 := Same.trans s1 s2
          have hD2' := s2 _ _ hD1
          have KO2 : KD.KeysOk H2 kvs := KO.same fun b xs h => s2 _ _ h
          have en2 := en.same s2
          obtain ⟨qk, rfl, isk⟩ := isK_dg (dv.same s2)
          obtain ⟨t, et, ht⟩ := en2.num g.1 (tZ H2)
          have nb1 : NB p (i * M) Dn (numA (sumA p (gs.take i)) g.1) := by
            have := numA_nb hp (sumA_na (L := gs.take i) hp hD fun e he => na e (List.mem_of_mem_take he)) g.1
            rwa [List.length_take, Nat.min_eq_left (by omega)] at this
          have nb2 := na g mg'
          have iM : i * M ≤ 1000000000000 := Nat.le_trans (Nat.mul_le_mul_right _ hi) (by omega)
          obtain ⟨b1, b2, b3⟩ := nb_bounds hp hD hD2 iM nb1
          obtain ⟨c1, c2, c3⟩ := nb_bounds hp hD hD2 (show M ≤ 1000000000000 by omega) nb2
          refine ⟨_, rfl, _, rfl, D, kvs, rfl, .inl hD2', KO2, _, rfl, (n, m, g.1), qk, rfl, .inl hD2', KO2, isk, ?_⟩
          rw [et]
          refine ⟨_, rfl, x, t, nu, p, d, (numA (sumA p (gs.take i)) g.1).1, (numA (sumA p (gs.take i)) g.1).2, g.2.1, g.2.2, rfl, sqT_same s12 hx, ht, sqT_same s2 hnu, fun z => (nomatch hW.symm.trans z), fun _ z => ?_, fun _ _ _ => ⟨⟨b1, by omega, c1, by omega, nb_mul b2 c2⟩, fun z => absurd z (nb_good hp nb1 nb2), fun _ r u v num nr => ?_⟩⟩
          · rcases z with z | z
            · exact nomatch nb1.ok.symm.trans z
            · exact nomatch nb2.ok.symm.trans z
          have eu := addN_of hp nb1.ok nb2.ok num
          have w3 := same_upd (o := .tup [.int u, .int v]) nr
          have isk3 := isk.same fun b xs h => w3 _ _ h
          have hD3 := w3 _ _ hD2'
          have KO3 : KD.KeysOk (upd H2 r (.tup [.int u, .int v])) kvs := KO2.same fun b xs h => w3 _ _ h
          have len : kvs.length ≤ 1000 := by
            have l1 := en.length
            have l2 := sumA_len p (gs.take i)
            have l3 := pT.length
            rw [List.length_append, List.length_map] at l3
            rw [List.length_take] at l2
            omega
          refine ⟨_, rfl, _, rfl, kvs, (n, m, g.1), D, qk, rfl, rfl, hD3, KO3, isk3, by omega, ?_⟩
          refine ⟨by omega, _, _, KD.putD kvs (n, m, g.1) qk (.ref r), rfl, Same.mut (Same.trans s12 w3) nD, upd_same, keys_put (KO3.same (tup_upd hD3)) (isk3.same (tup_upd hD3)), ?_⟩
          have es : sumA p (gs.take (i + 1)) = putA (sumA p (gs.take i)) g.1 (u, v) := by
            rw [List.take_succ, eg]
            show sumA p (gs.take i ++ [g]) = _
            rw [sumA_snoc, eu]
            rfl
          rw [es]
          exact ((en2.same w3).mono fun t xs h => sqT_upd hD3 h).put qk (x := (u, v)) (.inl (.inl (by rw [upd_ne (fun z => by rw [z, hD2'] at nr; exact nomatch nr), upd_same])))
        · obtain rfl : i = gs.length := by omega
          rw [List.getElem?_append_right (by rw [List.length_map]; exact Nat.le_refl _), List.length_map, Nat.sub_self] at ee
          cases hrest : rest with
          | nil => rw [hrest] at ee; exact nomatch ee
          | cons e0 r0 =>
            rw [hrest] at ee
            obtain rfl : e0 = e := Option.some.inj ee
            obtain ⟨dgok, st⟩ := qE e0 r0 hrest
            rcases st with ⟨nd, q⟩ | ⟨dg, ne, q⟩ | ⟨dg, ek, eq, nn, q⟩
            · exact ⟨_, rfl, _, rfl, _, rfl, n, m, vd, _, _, _, rfl, dv, dgok, fun _ H2 s2 => q H2 (Same.trans s1 s2), fun g => absurd g nd, fun g => absurd g nd⟩
            · exact ⟨_, rfl, _, rfl, _, rfl, n, m, vd, _, _, _, rfl, dv, dgok, fun g => absurd dg g, fun _ _ H2 s2 => q H2 (Same.trans s1 s2), fun _ c1 c2 => absurd ⟨c1, c2⟩ ne⟩
            · refine ⟨_, rfl, _, rfl, _, rfl, n, m, vd, _, _, _, rfl, dv, dgok, fun g => absurd dg g, fun _ ne => absurd ⟨ek, eq⟩ ne, fun _ _ _ H2 s2 => ?_⟩
              have s12 := Same.trans s1 s2
              have hD2' := s2 _ _ hD1
              have KO2 : KD.KeysOk H2 kvs := KO.same fun b xs h => s2 _ _ h
              have en2 := en.same s2
              obtain ⟨qk, rfl, isk⟩ := isK_dg (dv.same s2)
              rw [ek, eq] at isk
              obtain ⟨t, et, ht⟩ := en2.num e0.cs (tZ H2)
              refine ⟨_, rfl, _, rfl, D, kvs, rfl, .inl hD2', KO2, _, rfl, (n, m, e0.cs), qk, rfl, .inl hD2', KO2, isk, ?_⟩
              rw [et]
              exact ⟨_, rfl, x, t, nu, p, d, _, _, _, _, rfl, sqT_same s12 hx, ht, sqT_same s2 hnu, fun z => (nomatch hW.symm.trans z), fun _ _ => q H2 s12, fun _ _ z => (nomatch nn.symm.trans z)⟩
      · obtain ⟨hi, v6, v7, kvs, rfl, s1, hD1, KO, en⟩ := hP
        have l := pT.length
        rw [List.length_append, List.length_map] at l
        have hr0 : rest = [] := List.length_eq_zero_iff.mp (by omega)
        rw [hr0, List.length_nil, Nat.add_zero] at l
        rw [l, List.take_length] at en
        exact ⟨hr0, v6, v7, kvs, rfl, s1, hD1, KO, en⟩
    rintro σ H1 ⟨hr0, v6, v7, kvs, rfl, s1, hD1, KO, en⟩
    have gA : GA (n + m).toNat (sumA p gs) := sumA_ga ga
    have ndA := sumA_nodup p gs
    have lA : (sumA p gs).length ≤ 1000 := by
      have l2 := sumA_len p gs
      have l3 := pT.length
      rw [List.length_append, List.length_map] at l3
      omega
    have dgA : ∀ e ∈ sumA p gs, IsDg n m e.1 := fun e he => by
      obtain ⟨l, e1, hl⟩ := gA e he
      rw [e1]
      exact isDg_blocks (siz_iff.mpr ⟨by omega, by omega, by omega, by omega, by omega⟩) (by omega)
    have q := qQ hr0
    have nA : ∀ e ∈ sumA p gs, isN p e.2.1 e.2.2 = true := fun e he => (sumA_na hp hD na e he).ok
    clear qQ qE pT hr0
    generalize sumA p gs = A at *
    have lk := en.length
    refine ⟨fun σ H' => ∃ v6 v7 L3 ys, σ = [some (.ref a), some (.ref x), some (.int n), some (.int m), some (.ref L), some (.ref D), v6, v7, some (.ref L3), none] ∧ Same H H' ∧ KD.NZ P w H' D kvs ∧ KD.KeysOk H' kvs ∧ EntA K H' n m kvs A ∧ H' L3 = some (.lst ys) ∧ Paired (OrdP H' n m) ys (A.mergeSort (leP (n + m).toNat)), ?_, ?_⟩
    · refine ⟨_, rfl, D, kvs, rfl, hD1, fun o => ⟨D, o, kvs, rfl, upd_same, fun L2 nL2 => ?_⟩⟩
      have s2 : Same H (upd H1 D (.frz o (KD.NDict P w D kvs))) := Same.mut s1 nD
      have hD2 : upd H1 D (.frz o (KD.NDict P w D kvs)) D = some (.frz o (KD.NDict P w D kvs)) := upd_same
      have KO2 := KO.same (tup_upd (o := .frz o (KD.NDict P w D kvs)) hD1)
      have en2 := en.mono fun t xs h => sqT_upd (o := .frz o (KD.NDict P w D kvs)) hD1 h
      have nL2 : upd H1 D (.frz o (KD.NDict P w D kvs)) L2 = none := nL2
      have DL2 : D ≠ L2 := ne_of_none hD2 nL2
      refine lc_it KD.walk_z (fun i H' => SameBut L2 (upd H1 D (.frz o (KD.NDict P w D kvs))) H' ∧ ∃ us, H' L2 = some (.lst us) ∧ Paired (OrdQ L2 H' n m) us (A.take i)) ⟨SameBut.upd, [], upd_same, .nil⟩ (fun i H' _ hP => hP.1 _ _ DL2 hD2) (fun i y H3 H3' hi hP hy => ?_) (fun H3 hP => ?_)
      · obtain ⟨sb, us, hL2, pr⟩ := hP
        obtain ⟨e0, pk, epk, rfl⟩ := hy
        subst e0
        obtain ⟨e, ee, ek, t, et, ht⟩ := LiI.paired_get en2 epk
        have me := List.mem_of_getElem? ee
        have dg := dgA e me
        have few := dg.few
        have s23 : Same (upd H1 D (.frz o (KD.NDict P w D kvs))) H3' := fun b o e => sb b o (ne_of_none e nL2) e
        have isk := KO2 pk (List.mem_of_getElem? epk)
        rw [ek] at isk
        have isk3 := isk.same fun b xs h => s23 _ _ h
        refine ⟨rfl, _, rfl, .ref pk.2.1, n, m, e.1, rfl, dg_isK isk3, (few.more (by decide)).ok (by omega) (by omega), fun nd => absurd dg nd, fun _ Dl H5 s5 nDl hDl => ?_⟩
        refine ⟨_, rfl, (by show 2 ≤ sizeLine; decide), fun tt nt => ?_⟩
        have w6 := same_upd (o := .tup [.ref Dl, .ref pk.2.1]) nt
        have hL5 := w6 _ _ (s5 _ _ hL2)
        have lu := pr.length
        rw [List.length_take] at lu
        have tL : tt ≠ L2 := fun z => by rw [z, s5 _ _ hL2] at nt; exact nomatch nt
        have DlL : Dl ≠ L2 := fun z => by rw [z, hL2] at nDl; exact nomatch nDl
        refine ⟨us, hL5, by omega, fun b o nb e => by rw [upd_ne nb]; exact w6 _ _ (s5 _ _ (sb b o nb e)), _, upd_same, ?_⟩
        rw [List.take_succ, ee]
        have keep : ∀ b xs, upd H5 tt (.tup [.ref Dl, .ref pk.2.1]) b = some (.tup xs) → upd (upd H5 tt (.tup [.ref Dl, .ref pk.2.1])) L2 (.lst (us ++ [.ref tt])) b = some (.tup xs) := fun b xs h => by
          rw [upd_ne (fun z => by rw [z, hL5] at h; exact nomatch h)]
          exact h
        have hDl2 : upd (upd H5 tt (.tup [.ref Dl, .ref pk.2.1])) L2 (.lst (us ++ [.ref tt])) Dl = some (.lst ((labL e.1 (n + m).toNat).map V.int)) := by
          rw [upd_ne DlL]
          exact w6 _ _ hDl
        refine paired_add ⟨tt, Dl, pk.2.1, rfl, DlL, keep _ _ upd_same, hDl2, (isk3.same fun b xs h => w6 _ _ (s5 _ _ h)).same keep⟩ (Paired.mapP pr fun v e' h => ?_)
        obtain ⟨t', dl', q', e1, n1, h1, h2, h3⟩ := h
        refine ⟨t', dl', q', e1, n1, keep _ _ (w6 _ _ (s5 _ _ h1)), ?_, (h3.same fun b xs h => w6 _ _ (s5 _ _ h)).same keep⟩
        rw [upd_ne n1]
        exact w6 _ _ (s5 _ _ h2)
      · obtain ⟨sb, us, hL2, pr⟩ := hP
        rw [lk, List.take_length] at pr
        have pr : Paired (OrdP H3 n m) us A := Paired.mapP pr fun _ _ h => h.p
        have s23 : Same (upd H1 D (.frz o (KD.NDict P w D kvs))) H3 := fun b o e => sb b o (ne_of_none e nL2) e
        refine ⟨BS × Int × Int, encP (n + m).toNat n m, OrdP H3 n m, L2, us, A, rfl, .inl (.inl hL2), fun z hz => ?_, pr, Paired.mapP pr fun _ _ h => h.dp, ?_, .inl fun d hd => ?_, fun e he => enc_depth (dgA e he), fun ys L3 pys nL3 => ?_⟩
        · obtain ⟨i, hi, e⟩ := List.mem_iff_getElem.mp hz
          obtain ⟨_, _, t, _, _, rfl, _⟩ := LiI.paired_get pr (show us[i]? = some z by rw [List.getElem?_eq_getElem hi, e])
          exact ⟨t, rfl⟩
        · intro d hd d' hd'
          obtain ⟨e, _, rfl⟩ := List.mem_map.mp hd
          obtain ⟨e', _, rfl⟩ := List.mem_map.mp hd'
          unfold encP
          simp only [PySem.W.alike, PySem.W.alikeAll, alike_l, alike_dg, Bool.and_true]
        · obtain ⟨e, _, rfl⟩ := List.mem_map.mp hd
          exact ⟨_, _, rfl⟩
        · rw [sort_encP gA] at pys
          have w4 := same_upd (o := .lst ys) nL3
          have s4 := Same.trans s23 w4
          exact ⟨v6, v7, L3, ys, rfl, Same.trans s2 s4, ⟨o, s4 _ _ hD2⟩, KO2.same fun b xs h => s4 _ _ h, en2.same s4, upd_same, Paired.mapP pys fun _ _ h => h.same w4⟩
    clear s1 hD1 KO en
    rintro σ H2 ⟨v6', v7', L3, ys, rfl, s2, hDz, KO, en, hL3, pys⟩
    have ha2 := s2 _ _ ha
    refine ⟨_, rfl, _, rfl, a, CS, dx, [], rfl, ha2, S_Sum.cl, S_Sum.nw, by decide, ?_⟩
    rw [putF_w]
    refine ⟨_, rfl, _, rfl, a, CS, dx, _, rfl, upd_same, S_Sum.cl, S_Sum.nn, by show 1 < 1000; decide, ?_⟩
    rw [putF_n]
    refine ⟨_, rfl, _, rfl, a, CS, dx, _, rfl, upd_same, S_Sum.cl, S_Sum.nm, by show 2 < 1000; decide, ?_⟩
    rw [putF_m]
    have sbX : SameBut a H2 (upd (upd (upd H2 a (.ins CS dx (fl1 x))) a (.ins CS dx (fl2 x n))) a (.ins CS dx (fl3 x n m))) := (SameBut.upd.trans SameBut.upd).trans SameBut.upd
    have haX : upd (upd (upd H2 a (.ins CS dx (fl1 x))) a (.ins CS dx (fl2 x n))) a (.ins CS dx (fl3 x n m)) a = some (.ins CS dx (fl3 x n m)) := upd_same
    revert sbX haX
    generalize upd (upd (upd H2 a (.ins CS dx (fl1 x))) a (.ins CS dx (fl2 x n))) a (.ins CS dx (fl3 x n m)) = HX
    intro sbX haX
    obtain ⟨o, hDo⟩ := hDz
    have keepI : ∀ {H' : Hp} {b : Addr} {u : HO}, (∀ C d f, u ≠ .ins C d f) → SameBut a H2 H' → H2 b = some u → H' b = some u := fun {H' b u} hu sb h => sb b _ (fun z => by
      rw [z, ha2] at h
      exact hu _ _ _ (Option.some.inj h).symm) h
    have keepF : ∀ {H' : Hp} {b : Addr} {o : Obj} {u : HO}, SameBut a H2 H' → H2 b = some (.frz o u) → H' b = some (.frz o u) := fun sb h => keepI (fun _ _ _ z => HO.noConfusion z) sb h
    have keepL : ∀ {H' : Hp} {b : Addr} {u : List V}, SameBut a H2 H' → H2 b = some (.lst u) → H' b = some (.lst u) := fun sb h => keepI (fun _ _ _ z => HO.noConfusion z) sb h
    have keepT : ∀ {H' : Hp} {b : Addr} {u : List V}, SameBut a H2 H' → H2 b = some (.tup u) → H' b = some (.tup u) := fun sb h => keepI (fun _ _ _ z => HO.noConfusion z) sb h
    have hDX := keepF sbX hDo
    have hLX := keepL sbX hL3
    have KX : KD.KeysOk HX kvs := KO.same fun b xs h => keepT sbX h
    have eX : EntA K HX n m kvs A := en.mono fun t xs h => by
      rcases h with (h | ⟨o, h⟩) | h
      · exact .inl (.inl (keepT sbX h))
      · exact .inl (.inr ⟨o, keepF sbX h⟩)
      · exact .inr h
    have pX : Paired (OrdP HX n m) ys (A.mergeSort (leP (n + m).toNat)) := Paired.mapP pys fun _ _ ⟨t, dl, q, e1, h1, h2, h3⟩ => ⟨t, dl, q, e1, keepT sbX h1, keepL sbX h2, h3.same fun b xs h => keepT sbX h⟩
    have pmS := List.mergeSort_perm A (leP (n + m).toNat)
    have ndS : ((A.mergeSort (leP (n + m).toNat)).map (·.1)).Nodup := (pmS.map _).nodup_iff.mpr ndA
    have lS : (A.mergeSort (leP (n + m).toNat)).length ≤ 1000 := by rw [pmS.length_eq]; exact lA
    have memS : ∀ {e}, e ∈ A.mergeSort (leP (n + m).toNat) → e ∈ A := fun h => pmS.mem_iff.mp h
    have eN : (A.mergeSort (leP (n + m).toNat)).filter nzA = norm (n + m).toNat A := rfl
    clear pys hL3 en KO hDo
    generalize A.mergeSort (leP (n + m).toNat) = S at *
    refine ⟨_, rfl, L3, rfl, ⟨_, .inl (.inl hLX)⟩, fun Dn nDn => ?_⟩
    have DDn : D ≠ Dn := ne_of_none hDX nDn
    have LDn : L3 ≠ Dn := ne_of_none hLX nDn
    refine KD.dcz_it (walk_list (xs := ys)) (fun i H' => SameBut Dn HX H' ∧ ∃ kvz, H' Dn = some (KD.NDict P w Dn kvz) ∧ KD.KeysOk H' kvz ∧ EntA K H' n m kvz ((S.take i).filter nzA)) ⟨SameBut.upd, [], upd_same, keys_nil, entA_nil⟩ (fun i H' _ hP => .inl (.inl (hP.1 _ _ LDn hLX))) (fun i y H3 H3' hi hP hy => ?_) (fun H3 hP => ?_)
    · obtain ⟨sb, kvz, hDn, KZ, eZ⟩ := hP
      obtain ⟨e0, hy⟩ := hy
      subst e0
      obtain ⟨e, ee, t, dl, qk, rfl, ht, hdl, isk⟩ := LiI.paired_get pX hy
      have me := memS (List.mem_of_getElem? ee)
      have s3 : Same HX H3' := fun b o e => sb b o (ne_of_none e nDn) e
      have isk3 := isk.same fun b xs h => s3 _ _ h
      have hD3 := s3 _ _ hDX
      have K3 : KD.KeysOk H3' kvs := KX.same fun b xs h => s3 _ _ h
      have ev := eX.val e.1
      rw [getA_of ndA me] at ev
      obtain ⟨tn, evn, htn⟩ := ev
      have htn3 := sqT_same s3 htn
      refine ⟨t, _, rfl, .inl (.inl (s3 _ _ ht)), rfl, _, _, rfl, _, _, rfl, rfl, rfl, ?_⟩
      refine ⟨_, rfl, _, rfl, kvs, (n, m, e.1), .ref tn, ⟨D, qk, rfl, rfl, .inr ⟨o, hD3⟩, K3, isk3⟩, evn, ?_⟩
      refine ⟨dP2 e.2.1 e.2.2, dP2 0 1, .tup htn3 (.cons (.int _) (.cons (.int _) .nil)), .tup (tZ _) (.cons (.int 0) (.cons (.int 1) .nil)), dP2_shaped _ _, dP2_shaped _ _, ?_⟩
      rw [eqv_P2]
      rw [nz_is (nA e me)]
      have tk1 : S.take (i + 1) = S.take i ++ [e] := by rw [List.take_succ, ee]; rfl
      refine ⟨_, rfl, ?_⟩
      by_cases c : nzA e = true
      · refine if_pos_of c ⟨_, rfl, _, rfl, _, rfl, kvs, (n, m, e.1), .ref tn, ⟨D, qk, rfl, rfl, .inr ⟨o, hD3⟩, K3, isk3⟩, evn, ?_⟩
        have lz := eZ.length
        have lf := List.length_filter_le nzA (S.take i)
        rw [List.length_take] at lf
        refine ⟨kvz, (n, m, e.1), qk, rfl, hDn, KZ, isk3, by omega, fun b o nb h => by rw [upd_ne nb]; exact sb b o nb h, _, upd_same, keys_put (KZ.same (tup_upd hDn)) (isk3.same (tup_upd hDn)), ?_⟩
        have e2 := (eZ.mono fun t xs h => sqT_upd (o := KD.NDict P w Dn (KD.putD kvz (n, m, e.1) qk (.ref tn))) hDn h).put qk (b := e.1) (x := e.2) (sqT_upd hDn htn3)
        rw [putA_new (ahead ndS ee nzA)] at e2
        rw [tk1, List.filter_append, List.filter_cons, if_pos c]
        exact e2
      · refine if_neg_of c ⟨sb, kvz, hDn, KZ, ?_⟩
        rw [tk1, List.filter_append, List.filter_cons, if_neg c]
        show EntA K _ n m kvz (_ ++ [])
        rw [List.append_nil]
        exact eZ
    · obtain ⟨sb, kvz, hDn, KZ, eZ⟩ := hP
      rw [pX.length, List.take_length, eN] at eZ
      have s3 : Same HX H3 := fun b o e => sb b o (ne_of_none e nDn) e
      have aDn : a ≠ Dn := ne_of_none haX nDn
      refine ⟨Dn, kvz, rfl, hDn, fun o' => ⟨_, rfl, a, CS, dx, fl3 x n m, rfl, by rw [upd_ne aDn]; exact s3 _ _ haX, S_Sum.cl, S_Sum.nk, by show 3 < 1000; decide, ?_⟩⟩
      rw [putF_k]
      refine q _ (fun b o nb h => ?_) ⟨dx, Dn, kvz, upd_same, ⟨o', by rw [upd_ne (Ne.symm aDn)]; exact upd_same⟩, ?_, ?_⟩
      · have hX := sbX b o nb (s2 _ _ h)
        rw [upd_ne nb, upd_ne (ne_of_none hX nDn)]
        exact s3 _ _ hX
      · have haZ : upd H3 Dn (.frz o' (KD.NDict P w Dn kvz)) a = some (.ins CS dx (fl3 x n m)) := by rw [upd_ne aDn]; exact s3 _ _ haX
        refine (KZ.same (tup_upd (o := .frz o' (KD.NDict P w Dn kvz)) hDn)).same fun b xs h => ?_
        rw [upd_ne (fun z => by rw [z, haZ] at h; exact nomatch h)]
        exact h
      · have haZ : upd H3 Dn (.frz o' (KD.NDict P w Dn kvz)) a = some (.ins CS dx (fl3 x n m)) := by rw [upd_ne aDn]; exact s3 _ _ haX
        refine (eZ.mono fun t xs h => sqT_upd (o := .frz o' (KD.NDict P w Dn kvz)) hDn h).mono fun t xs h => ?_
        rcases h with (h | ⟨ob, h⟩) | h
        · exact .inl (.inl (by rw [upd_ne (fun z => by rw [z, haZ] at h; exact nomatch h)]; exact h))
        · exact .inl (.inr ⟨ob, by rw [upd_ne (fun z => by rw [z, haZ] at h; exact nomatch h)]; exact h⟩)
        · exact .inr h
end

section
variable {P : Program} {w : World} {K : PySem.W.Frag} {mg : Str → Option Value} {base : Heap}
/-! ### the methods of a sum -/
def spSumTerms (K : PySem.W.Frag) (P : Program) (w : World) (CS : Addr) : Sp := fun vs H Q _ => ∃ (a x : Addr) (n m : Int) (A : Asc), vs = [.ref a] ∧ SumV K P w CS H a x n m A ∧ ∀ (L : Addr) (us : List V) (H' : Hp), Same H H' → H L = none → H' L = some (.lst us) → Paired (fun v e => TermP K H' v (toT n m e)) us A → Q (.ref L) H'
theorem ok_Sum_terms {f CS : Addr} {fd : FuncData} (F : Fun K "terms" "Sum.terms" s_Sum_terms f fd) (S_Sum : SumC K mg CS) (z_list : mg "list" = none) :
    FnOk P w K mg base CX0 1 f fd ["self"] (spSumTerms K P w CS) := by
  refine F.ok sc_Sum_terms (fun vs H Q E h => ?_) (fun cdv A outer s H vs Q E hr h => ?_)
  · obtain ⟨a, x, n, m, A, rfl, _⟩ := h
    rfl
  · obtain ⟨a, x, n, m, A', rfl, ⟨dx, Dn, kvs, ha, hz, KO, en⟩, q⟩ := h
    refine ⟨_, (pss_one (ps_ret (KD.pe_itemsZ rfl (pe_fld (pv 0) rfl) rfl z_list boot_list))), ?_⟩
    refine ⟨_, rfl, a, CS, dx, _, _, rfl, ha, S_Sum.cl, S_Sum.nk, rfl, Dn, kvs, rfl, hz.rd, KO, fun H' p ts s' np nts _ _ hp pr => ?_⟩
    refine q p _ H' s' np hp ?_
    have go : ∀ {ts : List Addr} {kvs : KD.Ents} {A : Asc}, Paired (fun (t : Addr) (q : KD.DK × Addr × V) => H' t = some (.tup [.ref q.2.1, q.2.2])) ts kvs → KD.KeysOk H' kvs → EntA K H' n m kvs A → Paired (fun v e => TermP K H' v (toT n m e)) (ts.map V.ref) A := by
      intro ts kvs A pr
      induction pr generalizing A with
      | nil => intro _ en; cases en; exact .nil
      | @cons t q ts qs h _ ih =>
        intro KO en
        cases en with
        | cons e1 es =>
          obtain ⟨ek, tn, et, htn⟩ := e1
          have ik := KO q (.head _)
          rw [ek] at ik
          exact .cons ⟨t, .ref q.2.1, tn, rfl, .inl (.inl (by rw [h, et])), dg_isK ik, htn⟩ (ih (fun p hp => KO p (.tail _ hp)) es)
    exact go pr (KO.same fun b xs h => s' _ _ h) (en.same s')
def spSumAt (K : PySem.W.Frag) (P : Program) (w : World) (CS CD CB : Addr) : Sp := fun vs H Q E => ∃ (a x : Addr) (n m : Int) (A : Asc) (v : V) (k q : Int) (cs : BS), vs = [.ref a, v] ∧ SumV K P w CS H a x n m A ∧ DGv H v k q cs ∧ DgOk k q cs ∧ (¬ IsDg k q cs → ∀ H', Same H H' → E (.ref CD) none H') ∧
  (IsDg k q cs → ¬ (k = n ∧ q = m) → ∀ H', Same H H' → E (.ref CB) none H') ∧ (IsDg k q cs → k = n → q = m → ∀ (t : Addr) (H' : Hp), Same H H' → SqT K H' t [.int (numA A cs).1, .int (numA A cs).2] → Q (.ref t) H')
theorem ok_Sum_at {f CS CD CB aZ : Addr} {fd : FuncData} (F : Fun K "at" "Sum.at" s_Sum_at f fd) (S_Sum : SumC K mg CS) (m_ZERO : mg "ZERO" = some (.ref aZ)) (tZ : ∀ H, SqT K H aZ [.int 0, .int 1])
    {a_check_points_ : Addr} {fd_check_points_ : FuncData} (G_check_points_ : FnOk P w K mg base (L2N.CX P w) 4 a_check_points_ fd_check_points_ ["n", "m", "diagram"] (spCheckPts CD CB)) (g_check_points_ : mg "_check_points" = some (.ref a_check_points_)) (k_check_points_ : PySem.W.keepIn K (.ref a_check_points_) = true) (b_check_points_ : Binds K fd_check_points_ ["n", "m", "diagram"] []) : FnOk P w K mg base (L2N.CX P w) 5 f fd ["self", "diagram"] (spSumAt K P w CS CD CB) := by
  have r_ZERO : RelV (.ref aZ) (.ref aZ) := rfl
  refine F.okXN sc_Sum_at (fun vs H Q E h => ?_) (fun cdv A outer s H vs Q E hr h => ?_)
  · obtain ⟨a, x, n, m, A, v, k, q, cs, rfl, _⟩ := h
    rfl
  · obtain ⟨a, x, n, m, A', v, k, q, cs, rfl, sv, d1, o1, e1, e2, qq⟩ := h
    refine ⟨_, (pss_cons (ps_expr (pe_call G_check_points_ (hr.mono (by decide)) rfl g_check_points_ k_check_points_ b_check_points_ .nil (L2N.passes_call (L2N.takes_of rfl rfl rfl rfl) (fun _ _ _ _ h => h)) (pa_cons (pe_fld (pv 0) rfl) (pa_cons (pe_fld (pv 0) rfl) (pa_cons (pv 1) pa_nil)))))
  (pss_one (ps_ret (KD.pe_zgetd (room64 hr) (pe_fld (pv 0) rfl) (pv 1) (pe_glob rfl m_ZERO r_ZERO) ⟨by rfl, by rfl, by rfl, by rfl⟩)))), ?_⟩
    obtain ⟨dx, Dn, kvs, ha, hz, KO, en⟩ := id sv
    refine ⟨_, rfl, a, CS, dx, _, _, rfl, ha, S_Sum.cl, S_Sum.nn, rfl, _, rfl, a, CS, dx, _, _, rfl, ha, S_Sum.cl, S_Sum.nm, rfl, _, rfl, n, m, v, k, q, cs, rfl, d1, o1, e1, e2, fun g c1 c2 H1 s1 => ?_⟩
    obtain ⟨dx, Dn, kvs, ha, hz, KO, en⟩ := sv.same s1
    obtain ⟨qk, rfl, isk⟩ := isK_dg (d1.same s1)
    rw [c1, c2] at isk
    obtain ⟨t, et, ht⟩ := en.num cs (tZ H1)
    refine ⟨_, rfl, a, CS, dx, _, _, rfl, ha, S_Sum.cl, S_Sum.nk, rfl, Dn, kvs, rfl, hz.rd, KO, _, rfl, (n, m, cs), qk, rfl, hz.rd, KO, isk, ?_⟩
    rw [et]
    exact qq g c1 c2 t H1 s1 ht
def spSumLen (K : PySem.W.Frag) (P : Program) (w : World) (CS : Addr) : Sp := fun vs H Q _ => ∃ (a x : Addr) (n m : Int) (A : Asc), vs = [.ref a] ∧ SumV K P w CS H a x n m A ∧ Q (.int (A.length : Nat)) H
theorem ok_Sum_len {f CS : Addr} {fd : FuncData} (F : Fun K "__len__" "Sum.__len__" s_Sum_len f fd) (S_Sum : SumC K mg CS) (z_len : mg "len" = none) : FnOk P w K mg base CX0 1 f fd ["self"] (spSumLen K P w CS) := by
  refine F.ok sc_Sum_len (fun vs H Q E h => ?_) (fun cdv A outer s H vs Q E hr h => ?_)
  · obtain ⟨a, x, n, m, A, rfl, _⟩ := h
    rfl
  · obtain ⟨a, x, n, m, A', rfl, ⟨dx, Dn, kvs, ha, hz, KO, en⟩, q⟩ := h
    refine ⟨_, (pss_one (ps_ret (pe_callB KD.call_zlen (by rfl) z_len boot_len (pa_cons (pe_fld (pv 0) rfl) pa_nil)))), ?_⟩
    refine ⟨_, rfl, a, CS, dx, _, _, rfl, ha, S_Sum.cl, S_Sum.nk, rfl, Dn, kvs, rfl, hz.rd, KO, ?_⟩
    rw [en.length]
    exact q
def spSumBool (K : PySem.W.Frag) (P : Program) (w : World) (CS : Addr) : Sp := fun vs H Q _ => ∃ (a x : Addr) (n m : Int) (A : Asc), vs = [.ref a] ∧ SumV K P w CS H a x n m A ∧ Q (.bl (decide (A.length ≠ 0))) H
theorem ok_Sum_bool {f CS : Addr} {fd : FuncData} (F : Fun K "__bool__" "Sum.__bool__" s_Sum_bool f fd) (S_Sum : SumC K mg CS) (z_bool : mg "bool" = none) : FnOk P w K mg base CX0 1 f fd ["self"] (spSumBool K P w CS) := by
  refine F.ok sc_Sum_bool (fun vs H Q E h => ?_) (fun cdv A outer s H vs Q E hr h => ?_)
  · obtain ⟨a, x, n, m, A, rfl, _⟩ := h
    rfl
  · obtain ⟨a, x, n, m, A', rfl, ⟨dx, Dn, kvs, ha, hz, KO, en⟩, q⟩ := h
    refine ⟨_, (pss_one (ps_ret (pe_callTy KD.call_zbool (by rfl) z_bool boot_bool (pa_cons (pe_fld (pv 0) rfl) pa_nil)))), ?_⟩
    refine ⟨_, rfl, a, CS, dx, _, _, rfl, ha, S_Sum.cl, S_Sum.nk, rfl, Dn, kvs, rfl, hz.rd, KO, ?_⟩
    rw [en.length]
    exact q
end

/-! ### == of sums -/
def sameA (A B : Asc) : Bool := decide (A.length = B.length) && A.all fun e => match getA B e.1 with | none => false | some y => decide (e.2 = y)
theorem EntA.find {K : PySem.W.Frag} {H : Hp} {n m : Int} {kvs : KD.Ents} {B : Asc} (h : EntA K H n m kvs B) (b : BS) : (KD.findD kvs (n, m, b)).map (·.1) = (getA B b).map fun _ => ((n, m, b) : KD.DK) := by
  unfold EntA at h
  induction h with
  | nil => rfl
  | @cons p e ps es h1 _ ih =>
    obtain ⟨ek, _⟩ := h1
    rw [getA_cons]
    unfold KD.findD at ih ⊢
    by_cases c : e.1 = b
    · rw [if_pos c, List.find?_cons_of_pos (by rw [ek, c]; exact decide_eq_true rfl)]
      show some p.1 = some _
      rw [ek, c]
    · rw [if_neg c, List.find?_cons_of_neg (by rw [ek]; exact fun z => c (congrArg (fun q : KD.DK => q.2.2) (of_decide_eq_true z)))]
      exact ih
def fnum (A : Asc) (p : KD.DK × Addr × V) : PyData := dP2 (numA A p.1.2.2).1 (numA A p.1.2.2).2
theorem EntA.vals {K : PySem.W.Frag} {H : Hp} {n m : Int} {kvs : KD.Ents} {A : Asc} (h : EntA K H n m kvs A) (nd : (A.map (·.1)).Nodup) : KD.ValsZ K H kvs (fnum A) := fun p hp => by
  obtain ⟨i, hi, e⟩ := List.mem_iff_getElem.mp hp
  obtain ⟨z, ez, ek, t, et, ht⟩ := LiI.paired_get h (show kvs[i]? = some p by rw [List.getElem?_eq_getElem hi, e])
  have g := getA_of nd (List.mem_of_getElem? ez)
  have nz : numA A p.1.2.2 = z.2 := by
    unfold numA
    rw [ek, g]
    rfl
  refine ⟨?_, dP2_shaped _ _⟩
  unfold fnum
  rw [nz, et]
  exact .tup ht (.cons (.int _) (.cons (.int _) .nil))
theorem same_zA {K : PySem.W.Frag} {H : Hp} {n m : Int} {ka kb : KD.Ents} {A B : Asc} (ha : EntA K H n m ka A) (hb : EntA K H n m kb B) (nd : (A.map (·.1)).Nodup) : KD.sameZ ka kb (fnum A) (fnum B) = sameA A B := by
  have go : ∀ {ka' : KD.Ents} {A' : Asc}, EntA K H n m ka' A' → (∀ e ∈ A', numA A e.1 = e.2) → (ka'.all fun p => match KD.findD kb p.1 with | none => false | some q => PyData.eqv (fnum A p) (fnum B q)) = A'.all fun e => match getA B e.1 with | none => false | some y => decide (e.2 = y) := by
    intro ka' A' h hn
    unfold EntA at h
    induction h with
    | nil => rfl
    | @cons p e ps es h1 _ ih =>
      obtain ⟨ek, _⟩ := h1
      rw [List.all_cons, List.all_cons, ih fun z hz => hn z (.tail _ hz)]
      congr 1
      have f := hb.find e.1
      rw [ek]
      cases g : getA B e.1 with
      | none =>
        rw [g] at f
        rw [show KD.findD kb (n, m, e.1) = none from Option.map_eq_none_iff.mp f]
      | some y =>
        rw [g] at f
        obtain ⟨q, hq, eq⟩ := Option.map_eq_some_iff.mp f
        rw [hq]
        show PyData.eqv (fnum A p) (fnum B q) = decide (e.2 = y)
        unfold fnum
        rw [ek, eq, eqv_P2, hn e (.head _), show numA B e.1 = y by unfold numA; rw [g]; rfl]
        exact decide_eq_decide.mpr ⟨fun z => Prod.ext z.1 z.2, fun z => ⟨congrArg Prod.fst z, congrArg Prod.snd z⟩⟩
  have g := go ha fun e he => by unfold numA; rw [getA_of nd he]; rfl
  unfold KD.sameZ sameA
  rw [ha.length, hb.length]
  exact congrArg (fun z => decide (A.length = B.length) && z) g
section
variable {P : Program} {w : World} {K : PySem.W.Frag} {mg : Str → Option Value} {base : Heap}
def spSumEq (K : PySem.W.Frag) (P : Program) (w : World) (CS : Addr) : Sp := fun vs H Q _ => ∃ (a b x y : Addr) (n m k q p d p' d' : Int) (A B : Asc), vs = [.ref a, .ref b] ∧ SumV K P w CS H a x n m A ∧ SumV K P w CS H b y k q B ∧ SqT K H x [.int p, .int d] ∧ SqT K H y [.int p', .int d'] ∧ (A.map (·.1)).Nodup ∧ (B.map (·.1)).Nodup ∧
  Q (.bl (decide (p = p' ∧ d = d') && (decide (n = k) && (decide (m = q) && sameA A B)))) H
theorem ok_Sum_eq {f CS : Addr} {fd : FuncData} (F : Fun K "__eq__" "Sum.__eq__" s_Sum_eq f fd) (S_Sum : SumC K mg CS) (I_Sum : C8.InsC K CS) (z_isinstance : mg "isinstance" = none) : FnOk P w K mg base CX0 1 f fd ["self", "other"] (spSumEq K P w CS) := by
  have r_Sum : RelV (.ref CS) (.ref CS) := rfl
  refine F.ok sc_Sum_eq (fun vs H Q E h => ?_) (fun cdv A outer s H vs Q E hr h => ?_)
  · obtain ⟨a, b, x, y, n, m, k, q, p, d, p', d', A, B, rfl, _⟩ := h
    rfl
  · obtain ⟨a, b, x, y, n, m, k, q, p, d, p', d', A', B', rfl, ⟨dx, Dn, kvs, ha, hz, KO, en⟩, ⟨dy, Dm, kws, hb, hy, KB, em⟩, hx, hy', ndA, ndB, qq⟩ := h
    refine ⟨_, (pss_one (ps_ret (pe_and (pe_callB (C8.call_isC I_Sum) (by rfl) z_isinstance boot_isinstance (pa_cons (pv 1) (pa_cons (pe_glob rfl S_Sum.m r_Sum) pa_nil))) (pe_and (pe_cmpR (op_eqD (room64 hr)) (pe_fld (pv 0) rfl) (pe_fld (pv 1) rfl) (nomark _)) (pe_and (pe_cmpR op_eq (pe_fld (pv 0) rfl) (pe_fld (pv 1) rfl) (nomark _)) (pe_and (pe_cmpR op_eq (pe_fld (pv 0) rfl) (pe_fld (pv 1) rfl) (nomark _)) (pe_one (pe_cmpR (KD.op_zeq (room65 hr)) (pe_fld (pv 0) rfl) (pe_fld (pv 1) rfl) (nomark _))))))))), ?_⟩
    have ta : Dp K H (.ref x) (dP2 p d) := .tup hx (.cons (.int _) (.cons (.int _) .nil))
    have tb : Dp K H (.ref y) (dP2 p' d') := .tup hy' (.cons (.int _) (.cons (.int _) .nil))
    refine ⟨_, rfl, b, dy, _, rfl, hb, ?_⟩
    refine ⟨_, rfl, _, rfl, a, CS, dx, _, _, rfl, ha, S_Sum.cl, S_Sum.nw, rfl, _, rfl, b, CS, dy, _, _, rfl, hb, S_Sum.cl, S_Sum.nw, rfl, dP2 p d, dP2 p' d', ta, tb, dP2_shaped _ _, dP2_shaped _ _, ?_⟩
    rw [eqv_P2]
    have dI : ∀ i j : Int, decide (V.int i = V.int j) = decide (i = j) := fun i j => decide_eq_decide.mpr ⟨fun z => V.int.inj z, fun z => congrArg V.int z⟩
    by_cases c1 : p = p' ∧ d = d'
    rotate_left
    · rw [decide_eq_false c1] at qq ⊢
      exact ⟨_, rfl, qq⟩
    rw [decide_eq_true c1] at qq ⊢
    refine ⟨_, rfl, _, rfl, a, CS, dx, _, _, rfl, ha, S_Sum.cl, S_Sum.nn, rfl, _, rfl, b, CS, dy, _, _, rfl, hb, S_Sum.cl, S_Sum.nn, rfl, rfl, ?_⟩
    rw [dI]
    by_cases c2 : n = k
    rotate_left
    · rw [decide_eq_false c2] at qq ⊢
      exact ⟨_, rfl, qq⟩
    rw [decide_eq_true c2] at qq ⊢
    refine ⟨_, rfl, _, rfl, a, CS, dx, _, _, rfl, ha, S_Sum.cl, S_Sum.nm, rfl, _, rfl, b, CS, dy, _, _, rfl, hb, S_Sum.cl, S_Sum.nm, rfl, rfl, ?_⟩
    rw [dI]
    by_cases c3 : m = q
    rotate_left
    · rw [decide_eq_false c3] at qq ⊢
      exact ⟨_, rfl, qq⟩
    rw [decide_eq_true c3] at qq ⊢
    obtain rfl := c2
    obtain rfl := c3
    refine ⟨_, rfl, _, rfl, a, CS, dx, _, _, rfl, ha, S_Sum.cl, S_Sum.nk, rfl, _, rfl, b, CS, dy, _, _, rfl, hb, S_Sum.cl, S_Sum.nk, rfl, Dn, Dm, kvs, kws, fnum A', fnum B', rfl, rfl, hz.rd, KO, hy.rd, KB, en.vals ndA, em.vals ndB, ?_⟩
    rw [same_zA en em ndA]
    exact qq
end

section
variable {P : Program} {w : World} {K : PySem.W.Frag} {mg : Str → Option Value} {base : Heap}
/-! ### _law_lowest, _law_value, _law_plus -/
def spLLow : Sp := fun vs H Q _ => ∃ (a b : Int), vs = [.int a, .int b] ∧ 0 < b ∧ b ≤ 1000000000 ∧ ∀ r, H r = none → Q (.ref r) (upd H r (.tup [.int (low a b).1, .int (low a b).2]))
theorem ok_law_lowest {f : Addr} {fd : FuncData} (F : Fun K "_law_lowest" "_law_lowest" s_law_lowest f fd) (z_abs : mg "abs" = none) (z_range : mg "range" = none) (z_int : mg "int" = none) : FnOk P w K mg base CX0 1 f fd ["a", "b"] spLLow := by
  refine F.ok sc_law_lowest (fun vs H Q E h => ?_) (fun cdv A outer s H vs Q E hr h => ?_)
  · obtain ⟨a, b, rfl, _⟩ := h
    rfl
  · obtain ⟨a, b, rfl, hb, hb2, q⟩ := h
    have hg := gI_pos (a := a) (b := b) (by omega)
    have hg2 := gI_le (a := a) (b := b) (by omega)
    have el : low a b = (a / gI a b, b / gI a b) := by
      unfold low
      rw [if_neg (by omega)]
    refine ⟨_, (pss_cons (ps_set (i := 2) sc_law_lowest.nd rfl (.inl rfl) (pe_callB call_abs (by rfl) z_abs boot_abs (pa_cons (pv 0) pa_nil)))
  (pss_cons (ps_set (i := 3) sc_law_lowest.nd rfl (.inl rfl) (pv 1))
  (pss_cons (ps_for PassesOwn.never rfl (pi_range1 rfl z_range (pa_cons (pe_op op_pow pe_int pe_int) pa_nil)) (pg_name (i := 4) sc_law_lowest.nd rfl (.inl rfl)) (pss_cons (ps_if (pt_cmpR op_eq (pv 3) pe_int (nomark _)) (pss_one ps_break) pss_nil)
  (pss_one (ps_par (i := 2) (j := 3) rfl sc_law_lowest.nd rfl rfl (by decide) rfl rfl (pa_cons (pv 3) (pa_cons (pe_op op_mod (pe_callTy call_int1 (by rfl) z_int boot_int (pa_cons (pv 2) pa_nil)) (pv 3)) pa_nil)) (by rfl)))))
  (pss_one (ps_ret (pe_tup (pa_cons (pe_op op_fdiv (pv 0) (pv 2)) (pa_cons (pe_op op_fdiv (pv 1) (pv 2)) pa_nil)))))))), ?_⟩
    refine ⟨_, rfl, a, rfl, ?_⟩
    refine ⟨_, rfl, ?_⟩
    refine ⟨10, 9, rfl, rfl, ⟨by decide, by decide, by decide⟩, _, rfl, by decide, by decide, for_range (lo := 0) (n := 1000000000) (fun j σ H'' => ∃ (m n : Nat) (v4 : Option V), σ = [some (.int a), some (.int b), some (.int (m : Int)), some (.int (n : Int)), v4] ∧ H'' = H ∧ ((Nat.gcd m n : Nat) : Int) = gI a b ∧ n + j ≤ b.toNat)
        ⟨a.natAbs, b.natAbs, none, ?_, rfl, rfl, by omega⟩ ?_ ?_⟩
    · have e1 : (if a < 0 then -a else a) = (a.natAbs : Int) := by split <;> omega
      have e2 : b = (b.natAbs : Int) := by omega
      rw [← e1, ← e2]
      rfl
    · rintro j σ H2 hj ⟨m, n, v4, rfl, rfl, e1, e2⟩
      refine ⟨_, rfl, rfl, _, rfl, ite2 (fun e => ?_) (fun e => ?_)⟩
      · have n0 : (n : Int) = 0 := V.int.inj (of_decide_eq_true e)
        have n0' : n = 0 := by omega
        subst n0'
        rw [Nat.gcd_zero_right] at e1
        have c : CDiv a (m : Int) := ⟨by omega, by omega⟩
        refine ⟨_, rfl, _, rfl, a, m, rfl, rfl, c, _, rfl, _, rfl, b, m, rfl, rfl, c, (by show 2 ≤ sizeLine; decide), fun r nr => ?_⟩
        have h1 := q r nr
        rw [el, ← e1] at h1
        exact h1
      · have n0 : n ≠ 0 := fun z => e (decide_eq_true (congrArg V.int (by rw [z]; rfl)))
        refine ⟨_, rfl, _, rfl, .inl ⟨_, rfl, _, rfl, m, n, rfl, rfl, (show (0 : Int) < n by omega), _, _, rfl, n, m % n, some (.int (0 + (j : Int))), ?_, rfl, ?_, ?_⟩⟩
        · rw [Int.natCast_emod]
          rfl
        · rw [Nat.gcd_comm n (m % n), ← Nat.gcd_rec, Nat.gcd_comm]
          exact e1
        · have := Nat.mod_lt m (show n > 0 by omega)
          omega
    · rintro σ H2 ⟨m, n, v4, rfl, rfl, e1, e2⟩
      have n0' : n = 0 := by omega
      subst n0'
      rw [Nat.gcd_zero_right] at e1
      have c : CDiv a (m : Int) := ⟨by omega, by omega⟩
      refine ⟨_, rfl, _, rfl, a, m, rfl, rfl, c, _, rfl, _, rfl, b, m, rfl, rfl, c, (by show 2 ≤ sizeLine; decide), fun r nr => ?_⟩
      have h1 := q r nr
      rw [el, ← e1] at h1
      exact h1
end

theorem mod_in {p n : Int} (hp : 0 < p) : 0 ≤ n % p ∧ n % p < p := ⟨Int.emod_nonneg _ (by omega), Int.emod_lt_of_pos _ hp⟩
theorem nb_mod {p : Int} {M D : Nat} {n : Int} (hp : 0 < p) : NB p M D (n % p, 1) := by
  refine ⟨?_, fun z => absurd z (by omega)⟩
  unfold isN
  have m := mod_in (n := n) hp
  rw [if_neg (by omega), if_pos rfl, if_pos m.1]
  exact decide_eq_true m.2
theorem nb_val {a b : Int} (h1 : a.natAbs ≤ 4) (h2 : b = 1 ∨ b = 2 ∨ b = 3) : NB 0 4 6 (low a b) := by
  refine nb_low (by omega) (by omega) ?_ (by decide)
  rcases h2 with rfl | rfl | rfl
  · exact ⟨a * 6, by omega⟩
  · exact ⟨a * 3, by omega⟩
  · exact ⟨a * 2, by omega⟩
section
variable {P : Program} {w : World} {K : PySem.W.Frag} {mg : Str → Option Value} {base : Heap}
/-! ### _law_value, _law_plus -/
def spLValue (K : PySem.W.Frag) : Sp := fun vs H Q _ => ∃ (r x : Addr) (ds : List Int) (p d : Int), vs = [.ref r, .ref x] ∧ H r = some (.lst (ds.map V.int)) ∧ SqT K H x [.int p, .int d] ∧ r ≠ x ∧ (p = 0 ∨ p ∈ primes) ∧
  ∀ (y : Int × Int) (ds' : List Int) (t : Addr) (H' : Hp), SameBut r H H' → H' r = some (.lst (ds'.map V.int)) → H t = none → H' t = some (.tup [.int y.1, .int y.2]) → NB p 4 6 y → Q (.ref t) H'
theorem ok_law_value {f : Addr} {fd : FuncData} (F : Fun K "_law_value" "_law_value" s_law_value f fd) (z_int : mg "int" = none) {a_law_next : Addr} {fd_law_next : FuncData} (G_law_next : FnOk P w K mg base CX0 1 a_law_next fd_law_next ["draws"] spNext) (g_law_next : mg "_law_next" = some (.ref a_law_next)) (k_law_next : PySem.W.keepIn K (.ref a_law_next) = true) (b_law_next : Binds K fd_law_next ["draws"] [])
    {a_law_lowest : Addr} {fd_law_lowest : FuncData} (G_law_lowest : FnOk P w K mg base CX0 1 a_law_lowest fd_law_lowest ["a", "b"] spLLow) (g_law_lowest : mg "_law_lowest" = some (.ref a_law_lowest)) (k_law_lowest : PySem.W.keepIn K (.ref a_law_lowest) = true) (b_law_lowest : Binds K fd_law_lowest ["a", "b"] []) : FnOk P w K mg base CX0 2 f fd ["draws", "world"] (spLValue K) := by
  refine F.ok sc_law_value (fun vs H Q E h => ?_) (fun cdv A outer s H vs Q E hr h => ?_)
  · obtain ⟨r, x, ds, p, d, rfl, _⟩ := h
    rfl
  · obtain ⟨r, x, ds, p, d, rfl, hL, hx, hrx, hp, q⟩ := h
    refine ⟨_, (pss_cons (ps_if (pt_cmpR op_gt (pe_ix ix_tup (pv 1) pe_int (fun _ _ => rfl)) pe_int (nomark _)) (pss_one (ps_ret (pe_tup (pa_cons (pe_op op_mod (pe_callTy call_int1 (by rfl) z_int boot_int (pa_cons (pe_call G_law_next (hr.mono (by decide)) rfl g_law_next k_law_next b_law_next .nil pass0 (pa_cons (pv 0) pa_nil)) pa_nil)) (pe_ix ix_tup (pv 1) pe_int (fun _ _ => rfl))) (pa_cons pe_int pa_nil))))) pss_nil)
  (pss_one (ps_ret (pe_call G_law_lowest (hr.mono (by decide)) rfl g_law_lowest k_law_lowest b_law_lowest .nil pass0 (pa_cons (pe_op op_sub (pe_op op_mod (pe_callTy call_int1 (by rfl) z_int boot_int (pa_cons (pe_call G_law_next (hr.mono (by decide)) rfl g_law_next k_law_next b_law_next .nil pass0 (pa_cons (pv 0) pa_nil)) pa_nil)) pe_int) pe_int) (pa_cons (pe_op op_add pe_int (pe_op op_mod (pe_callTy call_int1 (by rfl) z_int boot_int (pa_cons (pe_call G_law_next (hr.mono (by decide)) rfl g_law_next k_law_next b_law_next .nil pass0 (pa_cons (pv 0) pa_nil)) pa_nil)) pe_int)) pa_nil)))))), ?_⟩
    refine ⟨_, rfl, x, _, 0, .int p, rfl, rfl, hx, atI_nat (j := 0) rfl, _, _, rfl, rfl, _, rfl, ite2 (fun e => ?_) (fun e => ?_)⟩
    · have hpos : 0 < p := of_decide_eq_true e
      refine ⟨_, rfl, r, ds, rfl, hL, fun n ds1 => ?_⟩
      have hx1 : SqT K (upd H r (.lst (ds1.map V.int))) x [.int p, .int d] := sqT_but SameBut.upd (Ne.symm hrx) hx
      refine .inl ⟨n, rfl, _, rfl, x, _, 0, .int p, rfl, rfl, hx1, atI_nat (j := 0) rfl, n, p, rfl, rfl, hpos, (by show 2 ≤ sizeLine; decide), fun y ny => ?_⟩
      have hry : r ≠ y := ne_of_none upd_same ny
      have ny' : H y = none := by rwa [upd_ne (Ne.symm hry)] at ny
      exact q (n % p, 1) ds1 y _ (SameBut.upd.trans (SameBut.new ny)) (by rw [upd_ne hry, upd_same]) ny' upd_same (nb_mod hpos)
    · have hpz : p = 0 := by
        have h0 : ¬ 0 < p := fun z => e (decide_eq_true z)
        rcases hp with hp | hp
        · exact hp
        · have := prime_pos hp
          omega
      refine ⟨_, rfl, r, ds, rfl, hL, fun n ds1 => ?_⟩
      refine .inl ⟨n, rfl, n, 9, rfl, rfl, (show (0 : Int) < 9 by decide), _, 4, rfl, rfl, ?_⟩
      refine ⟨_, rfl, r, ds1, rfl, upd_same, fun n2 ds2 => ?_⟩
      have m1 := mod_in (n := n) (show (0 : Int) < 9 by decide)
      have m2 := mod_in (n := n2) (show (0 : Int) < 3 by decide)
      refine .inl ⟨n2, rfl, n2, 3, rfl, rfl, (show (0 : Int) < 3 by decide), 1, _, rfl, rfl, _, _, rfl, (show 0 < 1 + n2 % 3 by omega), (show 1 + n2 % 3 ≤ 1000000000 by omega), fun y ny => ?_⟩
      have hry : r ≠ y := ne_of_none upd_same ny
      have ny' : H y = none := by rwa [upd_ne (Ne.symm hry), upd_ne (Ne.symm hry)] at ny
      refine q (low (n % 9 - 4) (1 + n2 % 3)) ds2 y _ ((SameBut.upd.trans SameBut.upd).trans (SameBut.new ny)) (by rw [upd_ne hry, upd_same]) ny' upd_same ?_
      rw [hpz]
      exact nb_val (by omega) (by omega)
def spLPlus (K : PySem.W.Frag) : Sp := fun vs H Q _ => ∃ (x s t : Addr) (p d : Int) (u v : Int × Int) (M M' D : Nat), vs = [.ref x, .ref s, .ref t] ∧ SqT K H x [.int p, .int d] ∧ SqT K H s [.int u.1, .int u.2] ∧ SqT K H t [.int v.1, .int v.2] ∧ (p = 0 ∨ p ∈ primes) ∧
  0 < D ∧ D ≤ 30000 ∧ M ≤ 1000000000000 ∧ M' ≤ 1000000000000 ∧ NB p M D u ∧ NB p M' D v ∧ ∀ r, H r = none → Q (.ref r) (upd H r (.tup [.int (addN p u v).1, .int (addN p u v).2]))
theorem ok_law_plus {f : Addr} {fd : FuncData} (F : Fun K "_law_plus" "_law_plus" s_law_plus f fd) (z_int : mg "int" = none) {a_law_lowest : Addr} {fd_law_lowest : FuncData} (G_law_lowest : FnOk P w K mg base CX0 1 a_law_lowest fd_law_lowest ["a", "b"] spLLow) (g_law_lowest : mg "_law_lowest" = some (.ref a_law_lowest)) (k_law_lowest : PySem.W.keepIn K (.ref a_law_lowest) = true) (b_law_lowest : Binds K fd_law_lowest ["a", "b"] []) : FnOk P w K mg base CX0 2 f fd ["world", "x", "y"] (spLPlus K) := by
  refine F.ok sc_law_plus (fun vs H Q E h => ?_) (fun cdv A outer s H vs Q E hr h => ?_)
  · obtain ⟨x, s, t, p, d, u, v, M, M', D, rfl, _⟩ := h
    rfl
  · obtain ⟨x, s, t, p, d, u, v, M, M', D, rfl, hx, hs, ht, hp, hD, hD2, hM, hM', nu, nv, q⟩ := h
    refine ⟨_, (pss_cons (ps_if (pt_cmpR op_gt (pe_ix ix_tup (pv 0) pe_int (fun _ _ => rfl)) pe_int (nomark _)) (pss_one (ps_ret (pe_tup (pa_cons (pe_op op_mod (pe_callTy call_int1 (by rfl) z_int boot_int (pa_cons (pe_op op_add (pe_ix ix_tup (pv 1) pe_int (fun _ _ => rfl)) (pe_ix ix_tup (pv 2) pe_int (fun _ _ => rfl))) pa_nil)) (pe_ix ix_tup (pv 0) pe_int (fun _ _ => rfl))) (pa_cons pe_int pa_nil))))) pss_nil)
  (pss_one (ps_ret (pe_call G_law_lowest (hr.mono (by decide)) rfl g_law_lowest k_law_lowest b_law_lowest .nil pass0 (pa_cons (pe_op op_add (pe_op op_mul (pe_ix ix_tup (pv 1) pe_int (fun _ _ => rfl)) (pe_ix ix_tup (pv 2) pe_int (fun _ _ => rfl))) (pe_op op_mul (pe_ix ix_tup (pv 2) pe_int (fun _ _ => rfl)) (pe_ix ix_tup (pv 1) pe_int (fun _ _ => rfl)))) (pa_cons (pe_op op_mul (pe_ix ix_tup (pv 1) pe_int (fun _ _ => rfl)) (pe_ix ix_tup (pv 2) pe_int (fun _ _ => rfl))) pa_nil)))))), ?_⟩
    obtain ⟨b1, b2, b3⟩ := nb_bounds hp hD hD2 hM nu
    obtain ⟨c1, c2, c3⟩ := nb_bounds hp hD hD2 hM' nv
    have bm := nb_mul b2 c2
    refine ⟨_, rfl, x, _, 0, .int p, rfl, rfl, hx, atI_nat (j := 0) rfl, _, _, rfl, rfl, _, rfl, ite2 (fun e => ?_) (fun e => ?_)⟩
    · have hpos : 0 < p := of_decide_eq_true e
      have q' := fun r nr => q r nr
      unfold addN at q'
      simp only [if_neg (show ¬ p = 0 by omega)] at q'
      refine ⟨_, rfl, s, _, 0, .int u.1, rfl, rfl, hs, atI_nat (j := 0) rfl, _, rfl, t, _, 0, .int v.1, rfl, rfl, ht, atI_nat (j := 0) rfl, u.1, v.1, rfl, rfl, ?_⟩
      refine .inl ⟨_, rfl, _, rfl, x, _, 0, .int p, rfl, rfl, hx, atI_nat (j := 0) rfl, u.1 + v.1, p, rfl, rfl, hpos, (by show 2 ≤ sizeLine; decide), fun y ny => ?_⟩
      exact q' y ny
    · have hpz : p = 0 := by
        have h0 : ¬ 0 < p := fun z => e (decide_eq_true z)
        rcases hp with hp | hp
        · exact hp
        · have := prime_pos hp
          omega
      have q' := fun r nr => q r nr
      unfold addN at q'
      simp only [if_pos hpz] at q'
      have bA : CMul u.1 v.2 := .inl ⟨by omega, by omega⟩
      have bB : CMul v.1 u.2 := .inl ⟨by omega, by omega⟩
      have bC : CMul u.2 v.2 := .inl ⟨by omega, by omega⟩
      have pos := Int.mul_pos b3 c3
      have bl : u.2.natAbs * v.2.natAbs ≤ 30000 * 30000 := Nat.mul_le_mul b2 c2
      rw [← Int.natAbs_mul] at bl
      refine ⟨_, rfl, s, _, 0, .int u.1, rfl, rfl, hs, atI_nat (j := 0) rfl, _, rfl, t, _, 1, .int v.2, rfl, rfl, ht, atI_nat (j := 1) rfl, u.1, v.2, rfl, rfl, bA, ?_⟩
      refine ⟨_, rfl, t, _, 0, .int v.1, rfl, rfl, ht, atI_nat (j := 0) rfl, _, rfl, s, _, 1, .int u.2, rfl, rfl, hs, atI_nat (j := 1) rfl, v.1, u.2, rfl, rfl, bB, _, _, rfl, rfl, ?_⟩
      refine ⟨_, rfl, s, _, 1, .int u.2, rfl, rfl, hs, atI_nat (j := 1) rfl, _, rfl, t, _, 1, .int v.2, rfl, rfl, ht, atI_nat (j := 1) rfl, u.2, v.2, rfl, rfl, bC, ?_⟩
      exact ⟨_, _, rfl, pos, (by omega), q'⟩
end

/-- a dict of the law: diagrams with their numbers -/
def LawD (K : PySem.W.Frag) (P : Program) (w : World) (H : Hp) (D : Addr) (n m : Int) (A : Asc) : Prop := ∃ kvs, KD.NZ P w H D kvs ∧ KD.KeysOk H kvs ∧ EntA K H n m kvs A
theorem LawD.same {K : PySem.W.Frag} {P : Program} {w : World} {H H' : Hp} {D : Addr} {n m : Int} {A : Asc} (s : Same H H') (h : LawD K P w H D n m A) : LawD K P w H' D n m A := by
  obtain ⟨kvs, h2, h3, h4⟩ := h
  exact ⟨kvs, h2.same s, h3.same fun b xs h => s _ _ h, h4.same s⟩
theorem EntA.keys {K : PySem.W.Frag} {H : Hp} {n m : Int} {kvs : KD.Ents} {A : Asc} (h : EntA K H n m kvs A) : (kvs.map fun p => KD.hashK p.1) = A.map fun e => KD.hashK (n, m, e.1) := by
  unfold EntA at h
  induction h with
  | nil => rfl
  | cons e _ ih => rw [List.map_cons, List.map_cons, ih, e.1]
section
variable {P : Program} {w : World} {K : PySem.W.Frag} {mg : Str → Option Value} {base : Heap}
/-! ### _law_added -/
def spLAdded (K : PySem.W.Frag) (P : Program) (w : World) : Sp := fun vs H Q _ => ∃ (x D t : Addr) (v : V) (p d n m : Int) (A : Asc) (cs : BS) (u : Int × Int) (M M' Dn : Nat), vs = [.ref x, .ref D, v, .ref t] ∧ SqT K H x [.int p, .int d] ∧ LawD K P w H D n m A ∧ DGv H v n m cs ∧ SqT K H t [.int u.1, .int u.2] ∧
  (p = 0 ∨ p ∈ primes) ∧ 0 < Dn ∧ Dn ≤ 30000 ∧ M ≤ 1000000000000 ∧ M' ≤ 1000000000000 ∧ NA p M Dn A ∧ NB p M' Dn u ∧ (A.map fun e => KD.hashK (n, m, e.1)).Nodup ∧ A.length < 10000 ∧
  ∀ (D' : Addr) (H' : Hp), Same H H' → H D' = none → LawD K P w H' D' n m (addA p A cs u) → Q (.ref D') H'
theorem ok_law_added {f : Addr} {fd : FuncData} (F : Fun K "_law_added" "_law_added" s_law_added f fd) (z_dict : mg "dict" = none) {a_law_plus : Addr} {fd_law_plus : FuncData} (G_law_plus : FnOk P w K mg base CX0 2 a_law_plus fd_law_plus ["world", "x", "y"] (spLPlus K)) (g_law_plus : mg "_law_plus" = some (.ref a_law_plus)) (k_law_plus : PySem.W.keepIn K (.ref a_law_plus) = true) (b_law_plus : Binds K fd_law_plus ["world", "x", "y"] []) : FnOk P w K mg base CX0 3 f fd ["world", "terms", "diagram", "x"] (spLAdded K P w) := by
  refine F.ok sc_law_added (fun vs H Q E h => ?_) (fun cdv A outer s H vs Q E hr h => ?_)
  · obtain ⟨x, D, t, v, p, d, n, m, A, cs, u, M, M', Dn, rfl, _⟩ := h
    rfl
  · obtain ⟨x, D, t, v, p, d, n, m, A', cs, u, M, M', Dn, rfl, hx, ⟨kvs, hz, KO, en⟩, dv, ht, hp, hD, hD2, hM, hM', na, nu, nd, la, q⟩ := h
    refine ⟨_, (pss_cons (ps_set (i := 4) sc_law_added.nd rfl (.inl rfl) (pe_callTy (KD.call_zcopy (room65 hr)) (by rfl) z_dict boot_dict (pa_cons (pv 1) pa_nil)))
  (pss_cons (ps_asg (pe_call G_law_plus (hr.mono (by decide)) rfl g_law_plus k_law_plus b_law_plus .nil pass0 (pa_cons (pv 0) (pa_cons (KD.pe_zgetd (room64 hr) (pv 4) (pv 2) (pe_tup (pa_cons pe_int (pa_cons pe_int pa_nil))) ⟨by rfl, by rfl, by rfl, by rfl⟩) (pa_cons (pv 3) pa_nil)))) (pg_sub (pv 4) (pv 2) (KD.set_nd (room64 hr))))
  (pss_one (ps_ret (KD.pe_still (pv 4)))))), ?_⟩
    have szl : 20000 ≤ sizeLine := by decide
    obtain ⟨qk, rfl, isk⟩ := isK_dg dv
    refine ⟨_, rfl, D, kvs, rfl, hz.rd, KO, (by rw [en.keys]; exact nd), fun c nc => ?_⟩
    have s1 : Same H (upd H c (KD.NDict P w c kvs)) := same_upd nc
    have hc1 : (upd H c (KD.NDict P w c kvs)) c = some (KD.NDict P w c kvs) := upd_same
    have KO1 := KO.same fun b xs h => s1 _ _ h
    have isk1 := isk.same fun b xs h => s1 _ _ h
    refine ⟨_, rfl, _, rfl, c, kvs, rfl, .inl hc1, KO1, _, rfl, (by show 2 ≤ sizeLine; decide), fun z nz => ?_⟩
    have s2 : Same (upd H c (KD.NDict P w c kvs)) (upd (upd H c (KD.NDict P w c kvs)) z (.tup [.int 0, .int 1])) := same_upd nz
    have hz2 : (upd (upd H c (KD.NDict P w c kvs)) z (.tup [.int 0, .int 1])) z = some (.tup [.int 0, .int 1]) := upd_same
    have s12 := Same.trans s1 s2
    have en2 := en.same s12
    obtain ⟨t0, et, ht0⟩ := en2.num cs (show SqT K _ z [.int 0, .int 1] from .inl (.inl hz2))
    refine ⟨(n, m, cs), qk, rfl, .inl (s2 _ _ hc1), KO1.same fun b xs h => s2 _ _ h, isk1.same fun b xs h => s2 _ _ h, _, rfl, ?_⟩
    rw [et]
    refine ⟨x, t0, t, p, d, numA A' cs, u, M, M', Dn, rfl, sqT_same s12 hx, ht0, sqT_same s12 ht, hp, hD, hD2, hM, hM', numA_nb hp na cs, nu, fun r nr => ?_⟩
    have s3 := same_upd (o := .tup [.int (addN p (numA A' cs) u).1, .int (addN p (numA A' cs) u).2]) nr
    have hr3 : (upd (upd (upd H c (KD.NDict P w c kvs)) z (.tup [.int 0, .int 1])) r (.tup [.int (addN p (numA A' cs) u).1, .int (addN p (numA A' cs) u).2])) r = some (.tup [.int (addN p (numA A' cs) u).1, .int (addN p (numA A' cs) u).2]) := upd_same
    have s123 := Same.trans s12 s3
    have hc3 := s3 _ _ (s2 _ _ hc1)
    have en3 := en.same s123
    have KO3 := KO.same fun b xs h => s123 _ _ h
    have isk3 := isk.same fun b xs h => s123 _ _ h
    have ck : ∀ b o, H b = some o → b ≠ c := fun b o h e => by rw [e, nc] at h; exact nomatch h
    have lk := en.length
    have l2 := keys_len (kvs := kvs) (k := (n, m, cs)) (q := qk) (v := .ref r)
    refine ⟨_, rfl, _, rfl, kvs, (n, m, cs), c, qk, rfl, rfl, hc3, KO3, isk3, by omega, ?_⟩
    refine ⟨_, rfl, c, KD.putD kvs (n, m, cs) qk (.ref r), rfl, upd_same, fun o => ?_⟩
    refine q c _ (fun b o h => ?_) nc ⟨KD.putD kvs (n, m, cs) qk (.ref r), ⟨o, upd_same⟩, ?_, ?_⟩
    · rw [upd_ne (ck b o h), upd_ne (ck b o h)]
      exact s123 _ _ h
    · exact (keys_put KO3 isk3).same fun b xs h => tup_upd upd_same b xs (tup_upd hc3 b xs h)
    · exact (en3.put (b := cs) (x := addN p (numA A' cs) u) qk (show SqT K _ r _ from .inl (.inl hr3))).mono fun t xs h => sqT_upd upd_same (sqT_upd hc3 h)
end

/-! ### the rows of the law, put in order -/
def encT (N : Nat) (n m : Int) (e : BS × Int × Int) : PyData := .tuple [.int n, .int m, dT (labL e.1 N)]
theorem lt_t (x y : List Int) : PySem.W.dataLt (dT x) (dT y) = decide (x < y) := by
  show PySem.W.dataLt (.tuple (x.map .int)) (.tuple (y.map .int)) = _
  rw [PySem.W.dataLt_tuple]
  exact PySem.W.dataLt_ints x y
theorem lt_encT (n m : Int) (x y : List Int) : PySem.W.dataLt (.tuple [.int n, .int m, dT x]) (.tuple [.int n, .int m, dT y]) = decide (x < y) := by
  by_cases c : x = y
  · subst c
    rw [PySem.W.dataLt_self, decide_eq_false (List.lt_irrefl _)]
  · rw [PySem.W.dataLt_tuple, PySem.W.dataLt_all_yes rfl (by simp [PyData.eqv]), PySem.W.dataLt_all_yes rfl (by simp [PyData.eqv])]
    rw [PySem.W.dataLt_all_no (alike_b x y) (by rw [eqv_dT]; exact decide_eq_false c), lt_t]
theorem le_encT {N : Nat} {n m : Int} (a b : BS × Int × Int) : PySem.W.dataLe false (encT N n m) a b = leP N a b := by
  show (!PySem.W.dataLt (encT N n m b) (encT N n m a)) = decide _
  unfold encT
  rw [lt_encT]
  by_cases h : labL b.1 N < labL a.1 N
  · have h' : ¬ labL a.1 N ≤ labL b.1 N := fun r => List.not_lt.mpr r h
    simp [h, h']
  · have h' : labL a.1 N ≤ labL b.1 N := List.not_lt.mp h
    simp [h, h']
theorem sort_encT {N : Nat} {n m : Int} {A : Asc} : A.mergeSort (PySem.W.dataLe false (encT N n m)) = A.mergeSort (leP N) := by
  have : PySem.W.dataLe false (encT N n m) = leP N := funext fun a => funext fun b => le_encT a b
  rw [this]
theorem GD.back {N : Nat} {b : BS} (h : GD N b) : blocksOf (labL b N) = b := by
  obtain ⟨l, rfl, rfl⟩ := h
  exact blocks_lab l
theorem sqT_lst {K : PySem.W.Frag} {H : Hp} {L a : Addr} {us xs : List V} {o : HO} (hL : H L = some (.lst us)) (h : SqT K H a xs) : SqT K (upd H L o) a xs := by
  rcases h with (h | ⟨ob, h⟩) | h
  · exact .inl (.inl (by rw [upd_ne (fun z => by rw [z, hL] at h; exact nomatch h)]; exact h))
  · exact .inl (.inr ⟨ob, by rw [upd_ne (fun z => by rw [z, hL] at h; exact nomatch h)]; exact h⟩)
  · exact .inr h
theorem tup_lst {H : Hp} {L : Addr} {us : List V} {o : HO} (hL : H L = some (.lst us)) : ∀ b xs, H b = some (.tup xs) → upd H L o b = some (.tup xs) := fun b xs h => by
  rw [upd_ne (fun z => by rw [z, hL] at h; exact nomatch h)]
  exact h
def TriP (N : Nat) (n m : Int) (H : Hp) (v : V) (e : BS × Int × Int) : Prop := ∃ t tm, v = .ref t ∧ H t = some (.tup [.int n, .int m, .ref tm]) ∧ H tm = some (.tup ((labL e.1 N).map V.int))
theorem TriP.mono {N : Nat} {n m : Int} {H H' : Hp} {v : V} {e : BS × Int × Int} (s : ∀ b xs, H b = some (.tup xs) → H' b = some (.tup xs)) (h : TriP N n m H v e) : TriP N n m H' v e := by
  obtain ⟨t, tm, e1, h1, h2⟩ := h
  exact ⟨t, tm, e1, s _ _ h1, s _ _ h2⟩
theorem TriP.dp {K : PySem.W.Frag} {N : Nat} {n m : Int} {H : Hp} {v : V} {e : BS × Int × Int} (h : TriP N n m H v e) : Dp K H v (encT N n m e) := by
  obtain ⟨t, tm, rfl, h1, h2⟩ := h
  exact .tup (.inl (.inl h1)) (.cons (.int n) (.cons (.int m) (.cons (.tup (.inl (.inl h2)) (ints_dp _)) .nil)))
def RowP (n m : Int) (H : Hp) (v : V) (e : BS × Int × Int) : Prop := ∃ q, v = .ref q ∧ KD.IsK H (n, m, e.1) q
theorem RowP.mono {n m : Int} {H H' : Hp} {v : V} {e : BS × Int × Int} (s : ∀ b xs, H b = some (.tup xs) → H' b = some (.tup xs)) (h : RowP n m H v e) : RowP n m H' v e := by
  obtain ⟨q, e1, h1⟩ := h
  exact ⟨q, e1, h1.same s⟩
def DueP (K : PySem.W.Frag) (n m : Int) (H : Hp) (v : V) (e : BS × Int × Int) : Prop := ∃ t q tn, v = .ref t ∧ H t = some (.tup [.ref q, .ref tn]) ∧ KD.IsK H (n, m, e.1) q ∧ SqT K H tn [.int e.2.1, .int e.2.2]
theorem DueP.mono {K : PySem.W.Frag} {n m : Int} {H H' : Hp} {v : V} {e : BS × Int × Int} (s : ∀ b xs, H b = some (.tup xs) → H' b = some (.tup xs)) (s2 : ∀ b xs, SqT K H b xs → SqT K H' b xs) (h : DueP K n m H v e) : DueP K n m H' v e := by
  obtain ⟨t, q, tn, e1, h1, h2, h3⟩ := h
  exact ⟨t, q, tn, e1, s _ _ h1, h2.same s, s2 _ _ h3⟩
theorem DueP.term {K : PySem.W.Frag} {n m : Int} {H : Hp} {v : V} {e : BS × Int × Int} (h : DueP K n m H v e) : TermP K H v (toT n m e) := by
  obtain ⟨t, q, tn, e1, h1, h2, h3⟩ := h
  exact ⟨t, .ref q, tn, e1, .inl (.inl h1), dg_isK h2, h3⟩
section
variable {P : Program} {w : World} {K : PySem.W.Frag} {mg : Str → Option Value} {base : Heap}
/-! ### _law_listed -/
def spLListed (K : PySem.W.Frag) (P : Program) (w : World) : Sp := fun vs H Q _ => ∃ (D : Addr) (n m : Int) (A : Asc), vs = [.ref D] ∧ LawD K P w H D n m A ∧ okSz n m ∧ GA (n + m).toNat A ∧ (A.map (·.1)).Nodup ∧ A.length ≤ 1000 ∧
  ∀ (L : Addr) (us : List V) (H' : Hp), Same H H' → H L = none → H' L = some (.lst us) → Paired (fun v e => TermP K H' v (toT n m e)) us (norm (n + m).toNat A) → Q (.ref L) H'
theorem ok_law_listed {f : Addr} {fd : FuncData} (F : Fun K "_law_listed" "_law_listed" s_law_listed f fd) (z_sorted : mg "sorted" = none) (z_tuple : mg "tuple" = none) {a_law_marks : Addr} {fd_law_marks : FuncData} (G_law_marks : FnOk P w K mg base CX0 1 a_law_marks fd_law_marks ["diagram"] spMarks) (g_law_marks : mg "_law_marks" = some (.ref a_law_marks)) (k_law_marks : PySem.W.keepIn K (.ref a_law_marks) = true) (b_law_marks : Binds K fd_law_marks ["diagram"] [])
    {a_law_marked : Addr} {fd_law_marked : FuncData} (G_law_marked : FnOk P w K mg base CX0 1 a_law_marked fd_law_marked ["n", "m", "marks"] (spMarked K)) (g_law_marked : mg "_law_marked" = some (.ref a_law_marked)) (k_law_marked : PySem.W.keepIn K (.ref a_law_marked) = true) (b_law_marked : Binds K fd_law_marked ["n", "m", "marks"] []) : FnOk P w K mg base CX0 2 f fd ["terms"] (spLListed K P w) := by
  refine F.ok sc_law_listed (fun vs H Q E h => ?_) (fun cdv A outer s H vs Q E hr h => ?_)
  · obtain ⟨D, n, m, A, rfl, _⟩ := h
    rfl
  · obtain ⟨D, n, m, A', rfl, ⟨kvs, ⟨o, hD⟩, KO, en⟩, hs, ga, nd, la, q⟩ := h
    refine ⟨_, (Evl.pss_cut (ps_set (i := 1) sc_law_listed.nd rfl (.inl rfl) (pe_callB (cr_sortedG (room64 hr)) (by rfl) z_sorted boot_sorted (pa_cons (pe_lc (own := [("diagram", 6)]) rfl sc_law_listed.nd (KD.pi_z (pv 0)) (blkOk_by (N := ["terms", "keys", "rows", "n", "m", "marks", "diagram"]) (sc := defScope s_law_listed) (by first | decide +kernel | rfl)) (fun _ _ _ _ _ => (pg_name (i := 6) sc_law_listed.nd rfl (.inl rfl))) (fun _ _ _ _ _ => pts_one (pt_cmpR op_ne (pe_ix (ix_tupK (K := K) rfl) (KD.pe_zgetP (P := P) (w := w) rfl rfl (room64 hr) (pv 0) (pv 6) (fun _ _ => rfl)) pe_int (fun _ _ => rfl)) pe_int (nomark _))) (fun _ _ _ _ _ => (pe_tup (pa_cons (pe_ix (ix_tupK (K := K) rfl) (pv 6) pe_int (fun _ _ => rfl)) (pa_cons (pe_ix (ix_tupK (K := K) rfl) (pv 6) pe_int (fun _ _ => rfl)) (pa_cons (pe_callTy (call_tuple_ofKM (K := K) rfl) (by rfl) z_tuple boot_tuple (pa_cons (pe_call G_law_marks (hr.mono (by decide)) rfl g_law_marks k_law_marks b_law_marks .nil pass0 (pa_cons (pv 6) pa_nil)) pa_nil)) pa_nil)))))) pa_nil)))
  (Evl.pss_cut (ps_setLc (i := 2) (own := [("n", 3), ("m", 4), ("marks", 5)]) rfl sc_law_listed.nd rfl rfl (sw_true rfl rfl rfl (by decide +kernel)) (pi_list (pv 1)) (blkOk_by (N := ["terms", "keys", "rows", "n", "m", "marks", "diagram"]) (sc := defScope s_law_listed) (by first | decide +kernel | rfl)) (fun _ _ _ _ _ => (pg_tupK (n := 3) (K := K) rfl rfl (pgs_cons (pg_name (i := 3) sc_law_listed.nd rfl (.inl rfl)) (pgs_cons (pg_name (i := 4) sc_law_listed.nd rfl (.inl rfl)) (pgs_cons (pg_name (i := 5) sc_law_listed.nd rfl (.inl rfl)) pgs_nil))))) (fun _ _ _ _ _ => pts_nil) (fun _ _ _ _ _ => (pe_call G_law_marked (hr.mono (by decide)) rfl g_law_marked k_law_marked b_law_marked .nil pass0 (pa_cons (pv 3) (pa_cons (pv 4) (pa_cons (pv 5) pa_nil))))))
  (pss_one (ps_ret (pe_lc (own := [("diagram", 6)]) rfl sc_law_listed.nd (pi_list (pv 2)) (blkOk_by (N := ["terms", "keys", "rows", "n", "m", "marks", "diagram"]) (sc := defScope s_law_listed) (by first | decide +kernel | rfl)) (fun _ _ _ _ _ => (pg_name (i := 6) sc_law_listed.nd rfl (.inl rfl))) (fun _ _ _ _ _ => pts_nil) (fun _ _ _ _ _ => (pe_tup (pa_cons (pv 6) (pa_cons (KD.pe_zgetP (P := P) (w := w) rfl rfl (room64 hr) (pv 0) (pv 6) (fun _ _ => rfl)) pa_nil))))))))), ?_⟩
    have szl : 20000 ≤ sizeLine := by decide
    have hs' := hs
    unfold okSz at hs'
    have dgA : ∀ e ∈ A', IsDg n m e.1 := fun e he => by
      obtain ⟨l, e1, hl⟩ := ga e he
      rw [e1]
      exact isDg_blocks (siz_iff.mpr ⟨by omega, by omega, by omega, by omega, by omega⟩) (by omega)
    have lk := en.length
    refine ⟨fun σ H' => ∃ L1 ys, σ = [some (.ref D), some (.ref L1), none, none, none, none, none] ∧ Same H H' ∧ H' L1 = some (.lst ys) ∧ Paired (TriP (n + m).toNat n m H') ys (norm (n + m).toNat A'), ?_, ?_⟩
    · refine ⟨_, rfl, D, o, kvs, rfl, hD, fun L2 nL2 => ?_⟩
      have DL2 : D ≠ L2 := ne_of_none hD nL2
      refine lc_it KD.walk_z (fun i H' => SameBut L2 H H' ∧ ∃ us, H' L2 = some (.lst us) ∧ Paired (TriP (n + m).toNat n m H') us ((A'.take i).filter nzA)) ⟨SameBut.upd, [], upd_same, .nil⟩ (fun i H' _ hP => hP.1 _ _ DL2 hD) (fun i y H3 H3' hi hP hy => ?_) (fun H3 hP => ?_)
      · obtain ⟨sb, us, hL2, pr⟩ := hP
        obtain ⟨e0, pk, epk, rfl⟩ := hy
        subst e0
        obtain ⟨e, ee, ek, t, et, ht⟩ := LiI.paired_get en epk
        have me := List.mem_of_getElem? ee
        have dg := dgA e me
        have few := dg.few
        have s3 : Same H H3' := fun b o e => sb b o (ne_of_none e nL2) e
        have isk := KO pk (List.mem_of_getElem? epk)
        rw [ek] at isk
        have isk3 := isk.same fun b xs h => s3 _ _ h
        have hD3 := s3 _ _ hD
        have K3 : KD.KeysOk H3' kvs := KO.same fun b xs h => s3 _ _ h
        have ev := en.val e.1
        rw [getA_of nd me] at ev
        obtain ⟨tn, evn, htn⟩ := ev
        have htn3 := sqT_same s3 htn
        have tk1 : A'.take (i + 1) = A'.take i ++ [e] := by rw [List.take_succ, ee]; rfl
        refine ⟨rfl, ?_⟩
        refine ⟨_, rfl, _, rfl, kvs, (n, m, e.1), .ref tn, ⟨D, _, rfl, rfl, .inr ⟨o, hD3⟩, K3, isk3⟩, evn, tn, _, 0, .int e.2.1, rfl, rfl, htn3, atI_nat (j := 0) rfl, ?_⟩
        obtain ⟨tb, ts, hq, _, _⟩ := id isk3
        refine ⟨rfl, _, rfl, ?_⟩
        have lu := pr.length
        have lf := List.length_filter_le nzA (A'.take i)
        rw [List.length_take] at lf
        rw [tk1, List.filter_append, List.filter_cons]
        by_cases c : e.2.1 = 0
        · refine if_neg_of (by rw [c]; decide) ?_
          rw [if_neg (by unfold nzA; rw [c]; decide)]
          show _ ∧ ∃ us, _ ∧ Paired _ us (_ ++ [])
          rw [List.append_nil]
          exact ⟨sb, us, hL2, pr⟩
        · refine if_pos_of (by show (!decide (V.int e.2.1 = V.int 0)) = true; rw [decide_eq_false (fun z => c (V.int.inj z))]; rfl) ?_
          rw [if_pos (by unfold nzA; exact decide_eq_true c)]
          refine ⟨_, rfl, pk.2.1, _, 0, .int n, rfl, rfl, .inl (.inl hq), atI_nat (j := 0) rfl, _, rfl, pk.2.1, _, 1, .int m, rfl, rfl, .inl (.inl hq), atI_nat (j := 1) rfl, _, rfl, .ref pk.2.1, n, m, e.1, rfl, dg_isK isk3, dg, (by have := few.1; omega), fun Dl H5 s5 nDl hDl => ?_⟩
          refine ⟨Dl, _, rfl, .inl ⟨.inl (.inl hDl), fun tm ntm => ⟨by show 3 ≤ sizeLine; decide, fun tt nt => ?_⟩⟩⟩
          have w6 := same_upd (o := .tup ((labL e.1 (n + m).toNat).map V.int)) ntm
          have w7 := same_upd (o := .tup [.int n, .int m, .ref tm]) nt
          have s57 := Same.trans s5 (Same.trans w6 w7)
          have hL7 := s57 _ _ hL2
          have htm : upd (upd H5 tm (.tup ((labL e.1 (n + m).toNat).map V.int))) tt (.tup [.int n, .int m, .ref tm]) tm = some (.tup ((labL e.1 (n + m).toNat).map V.int)) := w7 _ _ upd_same
          have keep := tup_lst (o := .lst (us ++ [.ref tt])) hL7
          refine ⟨us, hL7, by omega, fun b o nb e => by rw [upd_ne nb]; exact s57 _ _ (sb b o nb e), _, upd_same, ?_⟩
          exact paired_add ⟨tt, tm, rfl, keep _ _ upd_same, keep _ _ htm⟩ (Paired.mapP pr fun v e' h => (h.mono fun b xs h => s57 _ _ h).mono keep)
      · obtain ⟨sb, us, hL2, pr⟩ := hP
        rw [lk, List.take_length] at pr
        have s3 : Same H H3 := fun b o e => sb b o (ne_of_none e nL2) e
        have gf : GA (n + m).toNat (A'.filter nzA) := fun e he => ga e (List.mem_filter.mp he).1
        refine ⟨BS × Int × Int, encT (n + m).toNat n m, TriP (n + m).toNat n m H3, L2, us, A'.filter nzA, rfl, .inl (.inl hL2), fun z hz => ?_, pr, Paired.mapP pr fun _ _ h => h.dp, ?_, .inl fun d hd => ?_, fun e he => ?_, fun ys L3 pys nL3 => ?_⟩
        · obtain ⟨i, hi, e⟩ := List.mem_iff_getElem.mp hz
          obtain ⟨_, _, t, _, rfl, _⟩ := LiI.paired_get pr (show us[i]? = some z by rw [List.getElem?_eq_getElem hi, e])
          exact ⟨t, rfl⟩
        · intro d hd d' hd'
          obtain ⟨e, _, rfl⟩ := List.mem_map.mp hd
          obtain ⟨e', _, rfl⟩ := List.mem_map.mp hd'
          unfold encT
          simp only [PySem.W.alike, PySem.W.alikeAll, alike_b, Bool.and_true]
        · obtain ⟨e, _, rfl⟩ := List.mem_map.mp hd
          exact ⟨_, _, rfl⟩
        · have h4 := (lay_ints (labL e.1 (n + m).toNat)).2
          simp only [encT, dT, PyData.depth, PyData.depthAll, h4]
          omega
        · rw [sort_encT, ← norm_filter ga nd] at pys
          have w4 := same_upd (o := .lst ys) nL3
          exact ⟨L3, ys, rfl, Same.trans s3 w4, upd_same, Paired.mapP pys fun _ _ h => h.mono fun b xs h => w4 _ _ h⟩
    rintro σ H1 ⟨L1, ys, rfl, s1, hL1, pys⟩
    have memN : ∀ {e}, e ∈ norm (n + m).toNat A' → e ∈ A' := fun h => (List.mem_filter.mp ((norm_perm _ _).mem_iff.mp h)).1
    have lN : (norm (n + m).toNat A').length ≤ 1000 := by
      have := (norm_perm (n + m).toNat A').length_eq
      have := List.length_filter_le nzA A'
      omega
    have ly := pys.length
    refine ⟨fun σ H' => ∃ L2 zs, σ = [some (.ref D), some (.ref L1), some (.ref L2), none, none, none, none] ∧ Same H H' ∧ H' L2 = some (.lst zs) ∧ Paired (RowP n m H') zs (norm (n + m).toNat A'), ?_, ?_⟩
    · refine ⟨_, rfl, L1, rfl, ⟨_, .inl (.inl hL1)⟩, fun L2 nL2 => ?_⟩
      have LL : L1 ≠ L2 := ne_of_none hL1 nL2
      refine lc_it (walk_list (xs := ys)) (fun i H' => SameBut L2 H1 H' ∧ ∃ us, H' L2 = some (.lst us) ∧ Paired (RowP n m H') us ((norm (n + m).toNat A').take i)) ⟨SameBut.upd, [], upd_same, .nil⟩ (fun i H' _ hP => .inl (.inl (hP.1 _ _ LL hL1))) (fun i y H3 H3' hi hP hy => ?_) (fun H3 hP => ?_)
      · obtain ⟨sb, us, hL2, pr⟩ := hP
        obtain ⟨e0, hy⟩ := hy
        subst e0
        obtain ⟨e, ee, t, tm, rfl, ht, htm⟩ := LiI.paired_get pys hy
        have me := memN (List.mem_of_getElem? ee)
        have s3 : Same H1 H3' := fun b o e => sb b o (ne_of_none e nL2) e
        have ll := labL_len e.1 (n + m).toNat
        have gd := (ga e me).back
        refine ⟨t, _, rfl, .inl (.inl (s3 _ _ ht)), rfl, _, _, rfl, _, _, rfl, _, _, rfl, rfl, rfl, ?_⟩
        refine ⟨_, rfl, _, rfl, _, rfl, n, m, tm, labL e.1 (n + m).toNat, rfl, .inl (.inl (s3 _ _ htm)), by omega, by omega, fun v H5 s5 nv dv => ?_⟩
        rw [gd] at dv
        obtain ⟨qk, rfl, isk⟩ := isK_dg dv
        have hL5 := s5 _ _ hL2
        have keep := tup_lst (o := .lst (us ++ [.ref qk])) hL5
        have lu := pr.length
        rw [List.length_take] at lu
        refine ⟨us, hL5, by omega, fun b o nb e => by rw [upd_ne nb]; exact s5 _ _ (sb b o nb e), _, upd_same, ?_⟩
        rw [List.take_succ, ee]
        exact paired_add ⟨qk, rfl, isk.same keep⟩ (Paired.mapP pr fun v e' h => (h.mono fun b xs h => s5 _ _ h).mono keep)
      · obtain ⟨sb, us, hL2, pr⟩ := hP
        rw [ly, List.take_length] at pr
        have s3 : Same H1 H3 := fun b o e => sb b o (ne_of_none e nL2) e
        exact ⟨L2, us, rfl, Same.trans s1 s3, hL2, pr⟩
    clear pys hL1 s1 ly
    rintro σ H2 ⟨L2, zs, rfl, s2, hL2, pzs⟩
    have lz := pzs.length
    refine ⟨_, rfl, L2, rfl, ⟨_, .inl (.inl hL2)⟩, fun L3 nL3 => ?_⟩
    have LL : L2 ≠ L3 := ne_of_none hL2 nL3
    refine lc_it (walk_list (xs := zs)) (fun i H' => SameBut L3 H2 H' ∧ ∃ us, H' L3 = some (.lst us) ∧ Paired (DueP K n m H') us ((norm (n + m).toNat A').take i)) ⟨SameBut.upd, [], upd_same, .nil⟩ (fun i H' _ hP => .inl (.inl (hP.1 _ _ LL hL2))) (fun i y H3 H3' hi hP hy => ?_) (fun H3 hP => ?_)
    · obtain ⟨sb, us, hL3, pr⟩ := hP
      obtain ⟨e0, hy⟩ := hy
      subst e0
      obtain ⟨e, ee, qk, rfl, isk⟩ := LiI.paired_get pzs hy
      have me := memN (List.mem_of_getElem? ee)
      have s3 : Same H2 H3' := fun b o e => sb b o (ne_of_none e nL3) e
      have s03 : Same H H3' := Same.trans s2 s3
      have isk3 := isk.same fun b xs h => s3 _ _ h
      have hD3 := s03 _ _ hD
      have K3 : KD.KeysOk H3' kvs := KO.same fun b xs h => s03 _ _ h
      have ev := en.val e.1
      rw [getA_of nd me] at ev
      obtain ⟨tn, evn, htn⟩ := ev
      have htn3 := sqT_same s03 htn
      refine ⟨rfl, _, rfl, _, rfl, _, rfl, kvs, (n, m, e.1), .ref tn, ⟨D, _, rfl, rfl, .inr ⟨o, hD3⟩, K3, isk3⟩, evn, by show 2 ≤ sizeLine; decide, fun tt nt => ?_⟩
      have w7 := same_upd (o := .tup [.ref qk, .ref tn]) nt
      have hL7 := w7 _ _ hL3
      have keep := tup_lst (o := .lst (us ++ [.ref tt])) hL7
      have keep2 : ∀ b xs, SqT K (upd H3' tt (.tup [.ref qk, .ref tn])) b xs → SqT K (upd (upd H3' tt (.tup [.ref qk, .ref tn])) L3 (.lst (us ++ [.ref tt]))) b xs := fun b xs h => sqT_lst hL7 h
      have lu := pr.length
      rw [List.length_take] at lu
      refine ⟨us, hL7, by omega, fun b o nb e => by rw [upd_ne nb]; exact w7 _ _ (sb b o nb e), _, upd_same, ?_⟩
      rw [List.take_succ, ee]
      exact paired_add ⟨tt, qk, tn, rfl, keep _ _ upd_same, (isk3.same fun b xs h => w7 _ _ h).same keep, keep2 _ _ (sqT_same w7 htn3)⟩ (Paired.mapP pr fun v e' h => (h.mono (fun b xs h => w7 _ _ h) (fun b xs h => sqT_same w7 h)).mono keep keep2)
    · obtain ⟨sb, us, hL3, pr⟩ := hP
      rw [lz, List.take_length] at pr
      have s3 : Same H2 H3 := fun b o e => sb b o (ne_of_none e nL3) e
      exact q L3 us H3 (Same.trans s2 s3) (none_back s2 nL3) hL3 (Paired.mapP pr fun _ _ h => h.term)
end

section
variable {P : Program} {w : World} {K : PySem.W.Frag} {mg : Str → Option Value} {base : Heap}
/-! ### zero_sum -/
def spZeroSum (K : PySem.W.Frag) (P : Program) (w : World) (CS : Addr) : Sp := fun vs H Q _ => ∃ (x : Addr) (p d n m : Int), vs = [.ref x, .int n, .int m] ∧ SqT K H x [.int p, .int d] ∧ isW p d = true ∧ okSz n m ∧ ∀ a H', Same H H' → H a = none → SumV K P w CS H' a x n m [] → Q (.ref a) H'
theorem sum_none (p : Int) (N : Nat) : norm N (sumA p []) = [] := by
  show (List.mergeSort [] (leP N)).filter nzA = []
  rw [List.mergeSort_nil]
  rfl
theorem same_made {H : Hp} {x dx : Addr} {o1 o2 : HO} (nx : H x = none) (ndx : H dx = none) (h : dx ≠ x) : Same H (upd (upd H dx o1) x o2) := Same.trans (same_upd ndx) (same_upd (by rw [upd_ne (Ne.symm h)]; exact nx))
theorem ok_zero_sum {f CS CW CN CD CB a_Sum_init : Addr} {fd fd_Sum_init : FuncData} (F : Fun K "zero_sum" "zero_sum" s_zero_sum f fd) (S_Sum : SumC K mg CS) (M_Sum : Mk K CS a_Sum_init) (G_Sum_init : FnOk P w K mg base (L2N.CX P w) 7 a_Sum_init fd_Sum_init ["self", "world", "n", "m", "terms"] (spSumInit K P w CS CW CN CD CB)) (b_Sum_init : Binds K fd_Sum_init ["self", "world", "n", "m", "terms"] []) :
    FnOk P w K mg base CX0 9 f fd ["world", "n", "m"] (spZeroSum K P w CS) := by
  refine F.ok sc_zero_sum (fun vs H Q E h => ?_) (fun cdv A outer s H vs Q E hr h => ?_)
  · obtain ⟨x, p, d, n, m, rfl, _⟩ := h
    rfl
  · obtain ⟨x, p, d, n, m, rfl, hx, hW, hs, q⟩ := h
    refine ⟨_, (pss_one (ps_ret (pe_make M_Sum G_Sum_init (hr.mono (by decide)) rfl S_Sum.m b_Sum_init .nil passLN (pa_cons (pv 0) (pa_cons (pv 1) (pa_cons (pv 2) (pa_cons (pe_lst pa_nil) pa_nil))))))), ?_⟩
    refine ⟨_, rfl, _, rfl, _, rfl, (by show 0 ≤ sizeLine; decide), fun L nL x1 dx n1 n2 ne => ?_⟩
    have s1 := same_upd (o := .lst []) nL
    have s2 := same_made (o1 := .own x1) (o2 := .ins CS dx []) n1 n2 ne
    have s12 := Same.trans s1 s2
    refine ⟨x1, dx, x, p, d, n, m, L, [], rfl, upd_same, sqT_same s12 hx, fun z => (nomatch hW.symm.trans z), fun _ => ⟨fun z => absurd hs z, fun _ => ⟨[], [], 0, 1, .inl (.inl (s2 _ _ upd_same)), .nil, (fun e he => nomatch he), (fun e he => nomatch he), by decide, by decide, by decide, by decide, (fun e r z => nomatch z), fun _ H' sb sv => ⟨rfl, ?_⟩⟩⟩⟩
    rw [sum_none] at sv
    have nx1 : H x1 = none := none_back s1 n1
    exact q x1 H' (fun b o h => sb b o (fun z => by rw [z, nx1] at h; exact nomatch h) (s12 _ _ h)) nx1 sv
end

section
variable {P : Program} {w : World} {K : PySem.W.Frag} {mg : Str → Option Value} {base : Heap}
/-! ### _law_kind -/
theorem fl_pos {z x : Str} {l : List Str} (h : x = z) : ((l ++ [x]).filter fun t => decide (t = z)).map V.str = (l.filter fun t => decide (t = z)).map V.str ++ [.str x] := by
  rw [List.filter_append, List.map_append, List.filter_cons, decide_eq_true h]
  rfl
theorem fl_neg {z x : Str} {l : List Str} (h : x ≠ z) : ((l ++ [x]).filter fun t => decide (t = z)).map V.str = (l.filter fun t => decide (t = z)).map V.str := by
  rw [List.filter_append, List.filter_cons, decide_eq_false h]
  exact congrArg _ (List.append_nil _)
theorem fl_len (z : Str) (l : List Str) : ((l.filter fun t => decide (t = z)).map V.str).length ≤ l.length := by
  rw [List.length_map]
  exact List.length_filter_le _ _
/-- what an error class must say here: its name is z -/
structure KindE (K : PySem.W.Frag) (CE CW CF CD CN CB CT D : Addr) (z : Str) : Prop where
  C : ExcC K D
  e : PySem.W.kitOne K (.ref D) (.ref CE) = some true
  n : z ∈ (["world", "family", "diagram", "value", "number", "large"] : List Str)
  k0 : PySem.W.kitOne K (.ref D) (.ref CW) = some (decide (("world" : Str) = z))
  k1 : PySem.W.kitOne K (.ref D) (.ref CF) = some (decide (("family" : Str) = z))
  k2 : PySem.W.kitOne K (.ref D) (.ref CD) = some (decide (("diagram" : Str) = z))
  k3 : PySem.W.kitOne K (.ref D) (.ref CN) = some (decide (("value" : Str) = z))
  k4 : PySem.W.kitOne K (.ref D) (.ref CB) = some (decide (("number" : Str) = z))
  k5 : PySem.W.kitOne K (.ref D) (.ref CT) = some (decide (("large" : Str) = z))
def spLErr (K : PySem.W.Frag) (CE CW CF CD CN CB CT : Addr) : Addr → Value → Option Addr → Sp := fun a cls d vs H Q _ => ∃ D z, cls = .ref D ∧ d = none ∧ vs = [.ref a] ∧ KindE K CE CW CF CD CN CB CT D z ∧ ∀ H', Same H H' → Q (.str (("!" : Str) ++ z)) H'
theorem ok_law_kind {f CE CW CF CD CN CB CT : Addr} {fd : FuncData} (F : Fun K "_law_kind" "_law_kind" s_law_kind f fd) (m_WorthError : mg "WorthError" = some (.ref CE)) (m_NotWorld : mg "NotWorld" = some (.ref CW)) (m_NotFamily : mg "NotFamily" = some (.ref CF)) (m_NotDiagram : mg "NotDiagram" = some (.ref CD)) (m_NotNumber : mg "NotNumber" = some (.ref CN)) (m_BadNumber : mg "BadNumber" = some (.ref CB)) (m_TooLarge : mg "TooLarge" = some (.ref CT)) (z_isinstance : mg "isinstance" = none) (z_len : mg "len" = none) :
    FnE P w K mg base 1 f fd ["error"] (spLErr K CE CW CF CD CN CB CT) := by
  have r_WorthError : RelV (.ref CE) (.ref CE) := rfl
  have r_NotWorld : RelV (.ref CW) (.ref CW) := rfl
  have r_NotFamily : RelV (.ref CF) (.ref CF) := rfl
  have r_NotDiagram : RelV (.ref CD) (.ref CD) := rfl
  have r_NotNumber : RelV (.ref CN) (.ref CN) := rfl
  have r_BadNumber : RelV (.ref CB) (.ref CB) := rfl
  have r_TooLarge : RelV (.ref CT) (.ref CT) := rfl
  refine F.okE sc_law_kind (fun a cls d vs H Q E h => ?_) (fun cdv A outer s H vs Q E a oe cls d hz hf hr h => ?_)
  · obtain ⟨D, z, _, _, rfl, _⟩ := h
    rfl
  · obtain ⟨D, z, rfl, rfl, rfl, k, q⟩ := h
    refine ⟨_, (pss_cons (ps_set (i := 1) sc_law_kind.nd rfl (.inl rfl) (pe_lst pa_nil))
  (Evl.pss_cut (ps_if (pt_val (pe_callB (call_isEH hz hf) (by rfl) z_isinstance boot_isinstance (pa_cons (pv 0) (pa_cons (pe_glob rfl m_NotWorld r_NotWorld) pa_nil)))) (pss_one (ps_expr (pe_bm PySem.F.plainAttrs_list PySem.F.slot_list_append PySem.F.type_list_append mt_append (pv 1) (pa_cons pe_str pa_nil)))) pss_nil)
  (Evl.pss_cut (ps_if (pt_val (pe_callB (call_isEH hz hf) (by rfl) z_isinstance boot_isinstance (pa_cons (pv 0) (pa_cons (pe_glob rfl m_NotFamily r_NotFamily) pa_nil)))) (pss_one (ps_expr (pe_bm PySem.F.plainAttrs_list PySem.F.slot_list_append PySem.F.type_list_append mt_append (pv 1) (pa_cons pe_str pa_nil)))) pss_nil)
  (Evl.pss_cut (ps_if (pt_val (pe_callB (call_isEH hz hf) (by rfl) z_isinstance boot_isinstance (pa_cons (pv 0) (pa_cons (pe_glob rfl m_NotDiagram r_NotDiagram) pa_nil)))) (pss_one (ps_expr (pe_bm PySem.F.plainAttrs_list PySem.F.slot_list_append PySem.F.type_list_append mt_append (pv 1) (pa_cons pe_str pa_nil)))) pss_nil)
  (Evl.pss_cut (ps_if (pt_val (pe_callB (call_isEH hz hf) (by rfl) z_isinstance boot_isinstance (pa_cons (pv 0) (pa_cons (pe_glob rfl m_NotNumber r_NotNumber) pa_nil)))) (pss_one (ps_expr (pe_bm PySem.F.plainAttrs_list PySem.F.slot_list_append PySem.F.type_list_append mt_append (pv 1) (pa_cons pe_str pa_nil)))) pss_nil)
  (Evl.pss_cut (ps_if (pt_val (pe_callB (call_isEH hz hf) (by rfl) z_isinstance boot_isinstance (pa_cons (pv 0) (pa_cons (pe_glob rfl m_BadNumber r_BadNumber) pa_nil)))) (pss_one (ps_expr (pe_bm PySem.F.plainAttrs_list PySem.F.slot_list_append PySem.F.type_list_append mt_append (pv 1) (pa_cons pe_str pa_nil)))) pss_nil)
  (Evl.pss_cut (ps_if (pt_val (pe_callB (call_isEH hz hf) (by rfl) z_isinstance boot_isinstance (pa_cons (pv 0) (pa_cons (pe_glob rfl m_TooLarge r_TooLarge) pa_nil)))) (pss_one (ps_expr (pe_bm PySem.F.plainAttrs_list PySem.F.slot_list_append PySem.F.type_list_append mt_append (pv 1) (pa_cons pe_str pa_nil)))) pss_nil)
  (pss_cons (ps_if (L2.PW.pt (pw_and (pt_cmpR op_eq (pe_callB call_len_seq (by rfl) z_len boot_len (pa_cons (pv 1) pa_nil)) pe_int (nomark _)) (pw_and1 (pt_val (pe_callB (call_isEH hz hf) (by rfl) z_isinstance boot_isinstance (pa_cons (pv 0) (pa_cons (pe_glob rfl m_WorthError r_WorthError) pa_nil))))))) (pss_one (ps_ret (pe_op op_add_str pe_str (pe_ix ix_list (pv 1) pe_int (fun _ _ => rfl))))) pss_nil)
  (pss_one (ps_ret pe_str)))))))))), ?_⟩
    have szl : 20000 ≤ sizeLine := by decide
    refine ⟨(by show 0 ≤ sizeLine; decide), fun L nL => ?_⟩
    have st0 : Same H (upd H L (.lst [])) ∧ upd H L (.lst []) L = some (.lst ((([] : List Str).filter fun t => decide (t = z)).map V.str)) := ⟨same_upd nL, upd_same⟩
    revert st0
    generalize upd H L (.lst []) = H0
    intro st0
    refine ⟨fun σ H' => σ = [some (.ref a), some (.ref L)] ∧ Same H H' ∧ H' L = some (.lst (((["world"] : List Str).filter fun t => decide (t = z)).map V.str)), ?_, ?_⟩
    · refine ⟨_, rfl, D, rfl, rfl, k.C, .ref CW, .ref CW, _, rfl, fun _ r => r, k.k0, _, rfl, ?_⟩
      by_cases c : ("world" : Str) = z
      · refine if_pos_of (decide_eq_true c) ⟨_, rfl, .inl ⟨rfl, _, .inl (.inl st0.2)⟩, L, _, _, rfl, rfl, st0.2, Nat.lt_of_le_of_lt (fl_len z ([] : List Str)) (Nat.lt_of_lt_of_le (by decide : ([] : List Str).length < 20) (by omega)), ?_⟩
        refine ⟨rfl, Same.mut st0.1 nL, ?_⟩
        rw [show (["world"] : List Str) = ([] : List Str) ++ (["world"] : List Str) from rfl, fl_pos c]
        exact upd_same
      · refine if_neg_of (fun h => c (of_decide_eq_true h)) ⟨rfl, st0.1, ?_⟩
        rw [show (["world"] : List Str) = ([] : List Str) ++ (["world"] : List Str) from rfl, fl_neg c]
        exact st0.2
    clear st0
    rintro σ H1 ⟨rfl, st0⟩
    refine ⟨fun σ H' => σ = [some (.ref a), some (.ref L)] ∧ Same H H' ∧ H' L = some (.lst (((["world", "family"] : List Str).filter fun t => decide (t = z)).map V.str)), ?_, ?_⟩
    · refine ⟨_, rfl, D, rfl, rfl, k.C, .ref CF, .ref CF, _, rfl, fun _ r => r, k.k1, _, rfl, ?_⟩
      by_cases c : ("family" : Str) = z
      · refine if_pos_of (decide_eq_true c) ⟨_, rfl, .inl ⟨rfl, _, .inl (.inl st0.2)⟩, L, _, _, rfl, rfl, st0.2, Nat.lt_of_le_of_lt (fl_len z (["world"] : List Str)) (Nat.lt_of_lt_of_le (by decide : (["world"] : List Str).length < 20) (by omega)), ?_⟩
        refine ⟨rfl, Same.mut st0.1 nL, ?_⟩
        rw [show (["world", "family"] : List Str) = (["world"] : List Str) ++ (["family"] : List Str) from rfl, fl_pos c]
        exact upd_same
      · refine if_neg_of (fun h => c (of_decide_eq_true h)) ⟨rfl, st0.1, ?_⟩
        rw [show (["world", "family"] : List Str) = (["world"] : List Str) ++ (["family"] : List Str) from rfl, fl_neg c]
        exact st0.2
    clear st0
    rintro σ H2 ⟨rfl, st0⟩
    refine ⟨fun σ H' => σ = [some (.ref a), some (.ref L)] ∧ Same H H' ∧ H' L = some (.lst (((["world", "family", "diagram"] : List Str).filter fun t => decide (t = z)).map V.str)), ?_, ?_⟩
    · refine ⟨_, rfl, D, rfl, rfl, k.C, .ref CD, .ref CD, _, rfl, fun _ r => r, k.k2, _, rfl, ?_⟩
      by_cases c : ("diagram" : Str) = z
      · refine if_pos_of (decide_eq_true c) ⟨_, rfl, .inl ⟨rfl, _, .inl (.inl st0.2)⟩, L, _, _, rfl, rfl, st0.2, Nat.lt_of_le_of_lt (fl_len z (["world", "family"] : List Str)) (Nat.lt_of_lt_of_le (by decide : (["world", "family"] : List Str).length < 20) (by omega)), ?_⟩
        refine ⟨rfl, Same.mut st0.1 nL, ?_⟩
        rw [show (["world", "family", "diagram"] : List Str) = (["world", "family"] : List Str) ++ (["diagram"] : List Str) from rfl, fl_pos c]
        exact upd_same
      · refine if_neg_of (fun h => c (of_decide_eq_true h)) ⟨rfl, st0.1, ?_⟩
        rw [show (["world", "family", "diagram"] : List Str) = (["world", "family"] : List Str) ++ (["diagram"] : List Str) from rfl, fl_neg c]
        exact st0.2
    clear st0
    rintro σ H3 ⟨rfl, st0⟩
    refine ⟨fun σ H' => σ = [some (.ref a), some (.ref L)] ∧ Same H H' ∧ H' L = some (.lst (((["world", "family", "diagram", "value"] : List Str).filter fun t => decide (t = z)).map V.str)), ?_, ?_⟩
    · refine ⟨_, rfl, D, rfl, rfl, k.C, .ref CN, .ref CN, _, rfl, fun _ r => r, k.k3, _, rfl, ?_⟩
      by_cases c : ("value" : Str) = z
      · refine if_pos_of (decide_eq_true c) ⟨_, rfl, .inl ⟨rfl, _, .inl (.inl st0.2)⟩, L, _, _, rfl, rfl, st0.2, Nat.lt_of_le_of_lt (fl_len z (["world", "family", "diagram"] : List Str)) (Nat.lt_of_lt_of_le (by decide : (["world", "family", "diagram"] : List Str).length < 20) (by omega)), ?_⟩
        refine ⟨rfl, Same.mut st0.1 nL, ?_⟩
        rw [show (["world", "family", "diagram", "value"] : List Str) = (["world", "family", "diagram"] : List Str) ++ (["value"] : List Str) from rfl, fl_pos c]
        exact upd_same
      · refine if_neg_of (fun h => c (of_decide_eq_true h)) ⟨rfl, st0.1, ?_⟩
        rw [show (["world", "family", "diagram", "value"] : List Str) = (["world", "family", "diagram"] : List Str) ++ (["value"] : List Str) from rfl, fl_neg c]
        exact st0.2
    clear st0
    rintro σ H4 ⟨rfl, st0⟩
    refine ⟨fun σ H' => σ = [some (.ref a), some (.ref L)] ∧ Same H H' ∧ H' L = some (.lst (((["world", "family", "diagram", "value", "number"] : List Str).filter fun t => decide (t = z)).map V.str)), ?_, ?_⟩
    · refine ⟨_, rfl, D, rfl, rfl, k.C, .ref CB, .ref CB, _, rfl, fun _ r => r, k.k4, _, rfl, ?_⟩
      by_cases c : ("number" : Str) = z
      · refine if_pos_of (decide_eq_true c) ⟨_, rfl, .inl ⟨rfl, _, .inl (.inl st0.2)⟩, L, _, _, rfl, rfl, st0.2, Nat.lt_of_le_of_lt (fl_len z (["world", "family", "diagram", "value"] : List Str)) (Nat.lt_of_lt_of_le (by decide : (["world", "family", "diagram", "value"] : List Str).length < 20) (by omega)), ?_⟩
        refine ⟨rfl, Same.mut st0.1 nL, ?_⟩
        rw [show (["world", "family", "diagram", "value", "number"] : List Str) = (["world", "family", "diagram", "value"] : List Str) ++ (["number"] : List Str) from rfl, fl_pos c]
        exact upd_same
      · refine if_neg_of (fun h => c (of_decide_eq_true h)) ⟨rfl, st0.1, ?_⟩
        rw [show (["world", "family", "diagram", "value", "number"] : List Str) = (["world", "family", "diagram", "value"] : List Str) ++ (["number"] : List Str) from rfl, fl_neg c]
        exact st0.2
    clear st0
    rintro σ H5 ⟨rfl, st0⟩
    refine ⟨fun σ H' => σ = [some (.ref a), some (.ref L)] ∧ Same H H' ∧ H' L = some (.lst (((["world", "family", "diagram", "value", "number", "large"] : List Str).filter fun t => decide (t = z)).map V.str)), ?_, ?_⟩
    · refine ⟨_, rfl, D, rfl, rfl, k.C, .ref CT, .ref CT, _, rfl, fun _ r => r, k.k5, _, rfl, ?_⟩
      by_cases c : ("large" : Str) = z
      · refine if_pos_of (decide_eq_true c) ⟨_, rfl, .inl ⟨rfl, _, .inl (.inl st0.2)⟩, L, _, _, rfl, rfl, st0.2, Nat.lt_of_le_of_lt (fl_len z (["world", "family", "diagram", "value", "number"] : List Str)) (Nat.lt_of_lt_of_le (by decide : (["world", "family", "diagram", "value", "number"] : List Str).length < 20) (by omega)), ?_⟩
        refine ⟨rfl, Same.mut st0.1 nL, ?_⟩
        rw [show (["world", "family", "diagram", "value", "number", "large"] : List Str) = (["world", "family", "diagram", "value", "number"] : List Str) ++ (["large"] : List Str) from rfl, fl_pos c]
        exact upd_same
      · refine if_neg_of (fun h => c (of_decide_eq_true h)) ⟨rfl, st0.1, ?_⟩
        rw [show (["world", "family", "diagram", "value", "number", "large"] : List Str) = (["world", "family", "diagram", "value", "number"] : List Str) ++ (["large"] : List Str) from rfl, fl_neg c]
        exact st0.2
    clear st0
    rintro σ H6 ⟨rfl, st0⟩
    have e1 : ((["world", "family", "diagram", "value", "number", "large"] : List Str).filter fun t => decide (t = z)) = [z] := by
      have n := k.n
      simp only [List.mem_cons, List.not_mem_nil, or_false] at n
      rcases n with rfl | rfl | rfl | rfl | rfl | rfl <;> decide
    rw [e1] at st0
    have zl : z.length ≤ 20 := by
      have n := k.n
      simp only [List.mem_cons, List.not_mem_nil, or_false] at n
      rcases n with rfl | rfl | rfl | rfl | rfl | rfl <;> decide
    refine ⟨_, rfl, L, _, rfl, .inl (.inl (.inl st0.2)), rfl, _, rfl, if_pos_of rfl ⟨_, rfl, D, rfl, rfl, k.C, .ref CE, .ref CE, true, rfl, fun _ r => r, k.e, _, rfl, if_pos_of rfl ?_⟩⟩
    exact ⟨_, rfl, L, _, 0, .str z, rfl, rfl, .inl (.inl st0.2), rfl, "!", z, rfl, rfl, Nat.le_trans (Nat.add_le_add_left zl _) (Nat.le_trans (by decide) szl), q _ st0.1⟩
end

section
variable {P : Program} {w : World} {K : PySem.W.Frag} {mg : Str → Option Value} {base : Heap}
/-! ### _law_told: what the making of a sum tells -/
structure ErrE (K : PySem.W.Frag) (mg : Str → Option Value) (CE CW CF CD CN CB CT : Addr) : Prop where
  gE : mg "WorthError" = some (.ref CE)
  ebc : PySem.W.subIn K (.ref CE) (.type "BaseException") = some true
  ehd : PySem.W.hasDictIn K CE = true
  ety : PySem.W.typeIn K (.ref CE) = some (.type "type")
  sW : PySem.W.subIn K (.ref CW) (.ref CE) = some true
  sD : PySem.W.subIn K (.ref CD) (.ref CE) = some true
  sN : PySem.W.subIn K (.ref CN) (.ref CE) = some true
  sB : PySem.W.subIn K (.ref CB) (.ref CE) = some true
  kW : KindE K CE CW CF CD CN CB CT CW "world"
  kD : KindE K CE CW CF CD CN CB CT CD "diagram"
  kN : KindE K CE CW CF CD CN CB CT CN "value"
  kB : KindE K CE CW CF CD CN CB CT CB "number"
/-- what is wrong with a term -/
def Bad (p n m : Int) (e : TermD) (z : Str) : Prop := DgOk e.k e.q e.cs ∧ ((¬ IsDg e.k e.q e.cs ∧ z = "diagram") ∨ (IsDg e.k e.q e.cs ∧ ¬ (e.k = n ∧ e.q = m) ∧ z = "number") ∨ (IsDg e.k e.q e.cs ∧ e.k = n ∧ e.q = m ∧ isN p e.u e.v = false ∧ z = "value"))
def spTold32 (K : PySem.W.Frag) : Sp := fun vs H Q _ => ∃ (x L : Addr) (p d n m : Int) (ts : List V), vs = [.ref x, .int n, .int m, .ref L] ∧ SqT K H x [.int p, .int d] ∧
  ((isW p d = false ∧ ∀ H', Same H H' → Q (.str "!world") H') ∨ (isW p d = true ∧ ¬ okSz n m ∧ ∀ H', Same H H' → Q (.str "!number") H') ∨
   (isW p d = true ∧ okSz n m ∧ ∃ (gs : Asc) (rest : List TermD) (M D : Nat) (e : TermD) (r : List TermD) (z : Str), SqL K H L ts ∧ Paired (TermP K H) ts (gs.map (toT n m) ++ rest) ∧ GA (n + m).toNat gs ∧ NA p M D gs ∧
    0 < D ∧ D ≤ 30000 ∧ gs.length * M + M ≤ 1000000000000 ∧ ts.length ≤ 1000 ∧ rest = e :: r ∧ Bad p n m e z ∧ ∀ H', Same H H' → Q (.str (("!" : Str) ++ z)) H'))
theorem ok_law_told {f CS CE CW CF CD CN CB CT a_Sum_init : Addr} {fd fd_Sum_init : FuncData} (F : Fun K "_law_told" "_law_told" s_law_told f fd) (T : ErrE K mg CE CW CF CD CN CB CT)
    (S_Sum : SumC K mg CS) (M_Sum : Mk K CS a_Sum_init) (G_Sum_init : FnOk P w K mg base (L2N.CX P w) 7 a_Sum_init fd_Sum_init ["self", "world", "n", "m", "terms"] (spSumInit K P w CS CW CN CD CB)) (b_Sum_init : Binds K fd_Sum_init ["self", "world", "n", "m", "terms"] [])
    {a_law_kind : Addr} {fd_law_kind : FuncData} (G_law_kind : FnE P w K mg base  1 a_law_kind fd_law_kind ["error"] (spLErr K CE CW CF CD CN CB CT)) (g_law_kind : mg "_law_kind" = some (.ref a_law_kind)) (k_law_kind : PySem.W.keepIn K (.ref a_law_kind) = true) (b_law_kind : Binds K fd_law_kind ["error"] []) :
    FnOk P w K mg base CX0 10 f fd ["world", "n", "m", "pairs"] (spTold32 K) := by
  have gc_WorthError := T.gE
  have eW := PySem.W.exm_ref T.ebc T.ehd T.ety T.sW
  have eD := PySem.W.exm_ref T.ebc T.ehd T.ety T.sD
  have eN := PySem.W.exm_ref T.ebc T.ehd T.ety T.sN
  have eB := PySem.W.exm_ref T.ebc T.ehd T.ety T.sB
  refine F.ok sc_law_told (fun vs H Q E h => ?_) (fun cdv A outer s H vs Q E hr1 h => ?_)
  · obtain ⟨x, L, p, d, n, m, ts, rfl, _⟩ := h
    rfl
  · obtain ⟨x, L, p, d, n, m, ts, rfl, hx, q⟩ := h
    refine ⟨_, (pss_one (L2N.ps_try_as (i := 4) (Wout := fun _ _ _ _ => False) rfl rfl sc_law_told.nd rfl rfl ⟨rfl, by decide, .inl gc_WorthError⟩ takes0N (fun W pn xe tk _ => by exact (pss_one (ps_ret (pe_makeS M_Sum G_Sum_init (hr1.mono (by decide)) rfl S_Sum.m b_Sum_init (fun σ => L2N.passAt tk σ) (pa_cons (pv 0) (pa_cons (pv 1) (pa_cons (pv 2) (pa_cons (pv 3) pa_nil)))))))) (fun ax oe cls dx pn hz hf => by exact (pss_one (ps_ret (pe_callX1 G_law_kind (hr1.mono (by decide)) hz hf rfl g_law_kind k_law_kind b_law_kind (pa_cons (pv 4) pa_nil))))))), ?_⟩
    refine ⟨_, rfl, _, rfl, _, rfl, _, rfl, fun x1 dx n1 n2 ne => ?_⟩
    have s2 := same_made (o1 := .own x1) (o2 := .ins CS dx []) n1 n2 ne
    refine ⟨x1, dx, x, p, d, n, m, L, ts, rfl, upd_same, sqT_same s2 hx, ?_, ?_⟩
    · intro hW
      rcases q with ⟨_, q⟩ | ⟨c, _⟩ | ⟨c, _⟩
      · exact ⟨true, eW, fun _ ax _ => ⟨_, rfl, ⟨_, _, rfl, rfl, rfl, T.kW, fun H2 s3 => q H2 (Same.trans s2 s3)⟩⟩, fun z => nomatch z⟩
      · exact nomatch c.symm.trans hW
      · exact nomatch c.symm.trans hW
    · intro hW
      rcases q with ⟨c, q⟩ | ⟨_, hs, q⟩ | ⟨_, hs, q⟩
      · exact nomatch c.symm.trans hW
      · exact ⟨fun _ => ⟨true, eB, fun _ ax _ => ⟨_, rfl, ⟨_, _, rfl, rfl, rfl, T.kB, fun H2 s3 => q H2 (Same.trans s2 s3)⟩⟩, fun z => nomatch z⟩, fun z => absurd z hs⟩
      · obtain ⟨gs, rest, M, D, e, r, z, hL, pT, ga, na, hD, hD2, hM, lts, er, ⟨ok, bad⟩, q⟩ := q
        refine ⟨fun z => absurd hs z, fun _ => ⟨gs, rest, M, D, sqL_same s2 hL, Paired.mapP pT fun _ _ h => h.same s2, ga, na, hD, hD2, hM, lts, fun e' r' h => ?_, fun h => by rw [er] at h; exact nomatch h⟩⟩
        rw [er] at h
        obtain ⟨rfl, rfl⟩ := List.cons.inj h
        refine ⟨ok, ?_⟩
        rcases bad with ⟨c, rfl⟩ | ⟨c1, c2, rfl⟩ | ⟨c1, c2, c3, c4, rfl⟩
        · exact .inl ⟨c, fun H' s' => ⟨true, eD, fun _ ax _ => ⟨_, rfl, ⟨_, _, rfl, rfl, rfl, T.kD, fun H2 s3 => q H2 (Same.trans s2 (Same.trans s' s3))⟩⟩, fun z => nomatch z⟩⟩
        · exact .inr (.inl ⟨c1, c2, fun H' s' => ⟨true, eB, fun _ ax _ => ⟨_, rfl, ⟨_, _, rfl, rfl, rfl, T.kB, fun H2 s3 => q H2 (Same.trans s2 (Same.trans s' s3))⟩⟩, fun z => nomatch z⟩⟩)
        · exact .inr (.inr ⟨c1, c2, c3, c4, fun H' s' => ⟨true, eN, fun _ ax _ => ⟨_, rfl, ⟨_, _, rfl, rfl, rfl, T.kN, fun H2 s3 => q H2 (Same.trans s2 (Same.trans s' s3))⟩⟩, fun z => nomatch z⟩⟩)
end

/-- each point alone, from lo on -/
def singB (lo : Int) (N : Nat) : BS := (List.range N).map fun (i : Nat) => [lo + (i : Int)]
theorem singB_snoc (lo : Int) (N : Nat) : singB lo (N + 1) = singB lo N ++ [[lo + (N : Int)]] := by
  unfold singB
  rw [List.range_succ, List.map_append]
  rfl
theorem singB_len (lo : Int) (N : Nat) : (singB lo N).length = N := by
  unfold singB
  rw [List.length_map, List.length_range]
theorem singB_blocks : ∀ N, N ≤ 13 → blocksOf (ixs N) = singB 0 N := by decide +kernel
theorem singB_dg {n m : Int} (h : siz n m = true) : IsDg n m (singB 0 (n + m).toNat) := by
  have hs := siz_iff.mp h
  rw [← singB_blocks (n + m).toNat (by omega)]
  exact isDg_blocks h (by rw [ixs_len]; omega)
theorem singB_ok {lo n m : Int} {N : Nat} (hn : n.natAbs ≤ 1000) (hm : m.natAbs ≤ 1000) (hN : N ≤ 38) : DgOk n m ([0] :: [0] :: singB lo N) := by
  refine Few.ok ⟨?_, fun b hb => ?_⟩ hn hm
  · show (singB lo N).length + 1 + 1 ≤ 40
    rw [singB_len]; omega
  · rcases List.mem_cons.mp hb with rfl | hb
    · decide
    rcases List.mem_cons.mp hb with rfl | hb
    · decide
    obtain ⟨i, _, rfl⟩ := List.mem_map.mp hb
    exact Nat.le_trans (Nat.le_refl 1) (by decide)
theorem two_no {n m : Int} {bs : BS} : ¬ IsDg n m ([0] :: [0] :: bs) := fun h => by
  have nd := h.pm.nodup_iff.mpr (by
    unfold ixs
    exact List.pairwise_map.mpr ((range_lt _).imp fun {a b} h e => by omega))
  have e : (([0] :: [0] :: bs : BS)).flatten = 0 :: 0 :: bs.flatten := rfl
  rw [e, List.nodup_cons] at nd
  exact nd.1 (.head _)
theorem one_step {H0 H5 : Hp} {Z p : Addr} {es : List V} {x y : Int} {L : BS} (sb : SameBut Z H0 H5) (hZ : H5 Z = some (.lst es)) (np : H5 p = none) (pe : Paired (TP H5) es L) (e : x = y) :
    upd H5 p (.tup [.int x]) Z = some (.lst es) ∧ SameBut Z H0 (upd (upd H5 p (.tup [.int x])) Z (.lst (es ++ [.ref p]))) ∧
    ∃ es', upd (upd H5 p (.tup [.int x])) Z (.lst (es ++ [.ref p])) Z = some (.lst es') ∧ Paired (TP (upd (upd H5 p (.tup [.int x])) Z (.lst (es ++ [.ref p])))) es' (L ++ [[y]]) := by
  subst e
  have sp := same_upd (o := .tup [.int x]) np
  have npZ : p ≠ Z := fun z => by rw [z, hZ] at np; cases np
  refine ⟨sp _ _ hZ, (sb.trans (Same.but sp)).trans SameBut.upd, es ++ [.ref p], upd_same, ?_⟩
  have keep := tup_lst (o := .lst (es ++ [.ref p])) (sp _ _ hZ)
  refine paired_add ⟨p, rfl, keep _ _ upd_same⟩ (Paired.mapP pe fun v e h => ?_)
  obtain ⟨q0, e0, h0⟩ := h
  exact ⟨q0, e0, keep _ _ (sp _ _ h0)⟩
theorem isN_10 {p : Int} : isN p 1 0 = false := by
  unfold isN
  by_cases c : p = 0
  · rw [if_pos c, if_neg (by decide)]
  · rw [if_neg c, if_neg (by decide)]
section
variable {P : Program} {w : World} {K : PySem.W.Frag} {mg : Str → Option Value} {base : Heap}
/-! ### _law_refuses -/
def spRefuses (K : PySem.W.Frag) : Sp := fun vs H Q _ => ∃ (x L : Addr) (p d n m : Int) (ts : List V) (gs : Asc) (M D : Nat), vs = [.ref x, .int n, .int m, .ref L] ∧ SqT K H x [.int p, .int d] ∧ isW p d = true ∧ 0 ≤ n ∧ n ≤ 2 ∧ 0 ≤ m ∧ m ≤ 2 ∧
  H L = some (.lst ts) ∧ Paired (TermP K H) ts (gs.map (toT n m)) ∧ GA (n + m).toNat gs ∧ NA p M D gs ∧ 0 < D ∧ D ≤ 30000 ∧ gs.length * M + M ≤ 1000000000000 ∧ ts.length ≤ 500 ∧ ∀ H', Same H H' → Q (.bl true) H'
theorem ok_law_refuses {f : Addr} {fd : FuncData} (F : Fun K "_law_refuses" "_law_refuses" s_law_refuses f fd) (z_tuple : mg "tuple" = none) (z_range : mg "range" = none) {a_law_told : Addr} {fd_law_told : FuncData} (G_law_told : FnOk P w K mg base CX0 10 a_law_told fd_law_told ["world", "n", "m", "pairs"] (spTold32 K)) (g_law_told : mg "_law_told" = some (.ref a_law_told)) (k_law_told : PySem.W.keepIn K (.ref a_law_told) = true) (b_law_told : Binds K fd_law_told ["world", "n", "m", "pairs"] []) :
    FnOk P w K mg base CX0 11 f fd ["world", "n", "m", "pairs"] (spRefuses K) := by
  refine F.ok sc_law_refuses (fun vs H Q E h => ?_) (fun cdv A outer s H vs Q E hr h => ?_)
  · obtain ⟨x, L, p, d, n, m, ts, gs, M, D, rfl, _⟩ := h
    rfl
  · obtain ⟨x, L, p, d, n, m, ts, gs, M, D, rfl, hx, hW, n0, n2, m0, m2, hL, pT, ga, na, hD, hD2, hM, lts, q⟩ := h
    refine ⟨_, (Evl.pss_cut (ps_set (i := 4) sc_law_refuses.nd rfl (.inl rfl) (pe_tup (pa_cons (pv 1) (pa_cons (pv 2) (pa_cons (pe_op op_catTT (pe_tup (pa_cons (pe_tup (pa_cons pe_int pa_nil)) (pa_cons (pe_tup (pa_cons pe_int pa_nil)) pa_nil))) (pe_callTy call_tuple_of (by rfl) z_tuple boot_tuple (pa_cons (pe_lc (own := [("at", 9)]) rfl sc_law_refuses.nd (pi_range2 rfl z_range (pa_cons pe_int (pa_cons (pe_op op_add (pv 1) (pv 2)) pa_nil))) (blkOk_by (N := ["world", "n", "m", "pairs", "bad", "other", "calm", "wrong", "shape", "at"]) (sc := defScope s_law_refuses) (by first | decide +kernel | rfl)) (fun _ _ _ _ _ => (pg_name (i := 9) sc_law_refuses.nd rfl (.inl rfl))) (fun _ _ _ _ _ => pts_nil) (fun _ _ _ _ _ => (pe_tup (pa_cons (pv 9) pa_nil)))) pa_nil))) pa_nil)))))
  (Evl.pss_cut (ps_set (i := 5) sc_law_refuses.nd rfl (.inl rfl) (pe_tup (pa_cons (pe_op op_add (pv 1) pe_int) (pa_cons (pv 2) (pa_cons (pe_callTy call_tuple_of (by rfl) z_tuple boot_tuple (pa_cons (pe_lc (own := [("at", 9)]) rfl sc_law_refuses.nd (pi_range1 rfl z_range (pa_cons (pe_op op_add (pe_op op_add (pv 1) (pv 2)) pe_int) pa_nil)) (blkOk_by (N := ["world", "n", "m", "pairs", "bad", "other", "calm", "wrong", "shape", "at"]) (sc := defScope s_law_refuses) (by first | decide +kernel | rfl)) (fun _ _ _ _ _ => (pg_name (i := 9) sc_law_refuses.nd rfl (.inl rfl))) (fun _ _ _ _ _ => pts_nil) (fun _ _ _ _ _ => (pe_tup (pa_cons (pv 9) pa_nil)))) pa_nil)) pa_nil)))))
  (Evl.pss_cut (ps_set (i := 6) sc_law_refuses.nd rfl (.inl rfl) (pe_tup (pa_cons (pv 1) (pa_cons (pv 2) (pa_cons (pe_callTy call_tuple_of (by rfl) z_tuple boot_tuple (pa_cons (pe_lc (own := [("at", 9)]) rfl sc_law_refuses.nd (pi_range1 rfl z_range (pa_cons (pe_op op_add (pv 1) (pv 2)) pa_nil)) (blkOk_by (N := ["world", "n", "m", "pairs", "bad", "other", "calm", "wrong", "shape", "at"]) (sc := defScope s_law_refuses) (by first | decide +kernel | rfl)) (fun _ _ _ _ _ => (pg_name (i := 9) sc_law_refuses.nd rfl (.inl rfl))) (fun _ _ _ _ _ => pts_nil) (fun _ _ _ _ _ => (pe_tup (pa_cons (pv 9) pa_nil)))) pa_nil)) pa_nil)))))
  (Evl.pss_cut (ps_set (i := 7) sc_law_refuses.nd rfl (.inl rfl) (pe_tup (pa_cons pe_int (pa_cons pe_int pa_nil))))
  (Evl.pss_cut (ps_if (L2.PW.pt (pw_or (pt_cmpR op_ne (pe_call G_law_told (hr.mono (by decide)) rfl g_law_told k_law_told b_law_told .nil pass0 (pa_cons (pe_tup (pa_cons pe_int (pa_cons pe_int pa_nil))) (pa_cons (pe_un un_neg pe_int) (pa_cons pe_int (pa_cons (pv 3) pa_nil))))) pe_str (nomark _)) (pw_or1 (pt_cmpR op_ne (pe_call G_law_told (hr.mono (by decide)) rfl g_law_told k_law_told b_law_told .nil pass0 (pa_cons (pe_tup (pa_cons pe_int (pa_cons pe_int pa_nil))) (pa_cons (pe_un un_neg pe_int) (pa_cons pe_int (pa_cons (pv 3) pa_nil))))) pe_str (nomark _))))) (pss_one (ps_ret pe_bl)) pss_nil)
  (Evl.pss_cut (ps_for PassesOwn.never rfl (pi_list (pe_lst (pa_cons (pe_tup (pa_cons (pe_un un_neg pe_int) (pa_cons pe_int pa_nil))) (pa_cons (pe_tup (pa_cons pe_int (pa_cons (pe_un un_neg pe_int) pa_nil))) (pa_cons (pe_tup (pa_cons pe_int (pa_cons pe_int pa_nil))) (pa_cons (pe_tup (pa_cons pe_int (pa_cons pe_int pa_nil))) pa_nil)))))) (pg_name (i := 8) sc_law_refuses.nd rfl (.inl rfl)) (pss_one (ps_if (pt_cmpR op_ne (pe_call G_law_told (hr.mono (by decide)) rfl g_law_told k_law_told b_law_told .nil pass0 (pa_cons (pv 0) (pa_cons (pe_ix ix_tup (pv 8) pe_int (fun _ _ => rfl)) (pa_cons (pe_ix ix_tup (pv 8) pe_int (fun _ _ => rfl)) (pa_cons (pe_lst (pa_cons (pe_tup (pa_cons (pv 4) (pa_cons (pv 7) pa_nil))) pa_nil)) pa_nil))))) pe_str (nomark _)) (pss_one (ps_ret pe_bl)) pss_nil)))
  (Evl.pss_cut (ps_if (pt_cmpR op_ne (pe_call G_law_told (hr.mono (by decide)) rfl g_law_told k_law_told b_law_told .nil pass0 (pa_cons (pv 0) (pa_cons (pv 1) (pa_cons (pv 2) (pa_cons (pe_op op_cat (pv 3) (pe_lst (pa_cons (pe_tup (pa_cons (pv 4) (pa_cons (pv 7) pa_nil))) pa_nil))) pa_nil))))) pe_str (nomark _)) (pss_one (ps_ret pe_bl)) pss_nil)
  (Evl.pss_cut (ps_if (pt_cmpR op_ne (pe_call G_law_told (hr.mono (by decide)) rfl g_law_told k_law_told b_law_told .nil pass0 (pa_cons (pv 0) (pa_cons (pv 1) (pa_cons (pv 2) (pa_cons (pe_op op_cat (pv 3) (pe_lst (pa_cons (pe_tup (pa_cons (pv 5) (pa_cons (pv 7) pa_nil))) (pa_cons (pe_tup (pa_cons (pv 4) (pa_cons (pv 7) pa_nil))) pa_nil)))) pa_nil))))) pe_str (nomark _)) (pss_one (ps_ret pe_bl)) pss_nil)
  (pss_one (ps_ret (pe_cmpR op_eq (pe_call G_law_told (hr.mono (by decide)) rfl g_law_told k_law_told b_law_told .nil pass0 (pa_cons (pv 0) (pa_cons (pv 1) (pa_cons (pv 2) (pa_cons (pe_op op_cat (pv 3) (pe_lst (pa_cons (pe_tup (pa_cons (pv 6) (pa_cons (pv 7) pa_nil))) (pa_cons (pe_tup (pa_cons (pv 4) (pa_cons (pv 7) pa_nil))) pa_nil)))) pa_nil))))) pe_str (nomark _)))))))))))), ?_⟩
    have szl : 20000 ≤ sizeLine := by decide
    refine ⟨fun σ H' => ∃ vb, σ = [some (.ref x), some (.int n), some (.int m), some (.ref L), some vb, none, none, none, none, none] ∧ Same H H' ∧ DGv H' vb n m ([0] :: [0] :: singB 1 ((n + m).toNat - 1)), ?_, ?_⟩
    · refine ⟨_, rfl, _, rfl, (by show 1 ≤ sizeLine; decide), fun a na => ⟨(by show 1 ≤ sizeLine; decide), fun b nb => ⟨(by show 2 ≤ sizeLine; decide), fun c nc => ?_⟩⟩⟩
      have w1 := same_upd (o := .tup [.int 0]) na
      have w2 := same_upd (o := .tup [.int 0]) nb
      have w3 := same_upd (o := .tup [.ref a, .ref b]) nc
      have sc := Same.trans w1 (Same.trans w2 w3)
      have tc : TT (upd (upd (upd H a (.tup [.int 0])) b (.tup [.int 0])) c (.tup [.ref a, .ref b])) (.ref c) [[0], [0]] := ⟨c, _, rfl, upd_same, .cons ⟨a, rfl, w3 _ _ (w2 _ _ upd_same)⟩ (.cons ⟨b, rfl, w3 _ _ upd_same⟩ .nil)⟩
      revert sc tc
      generalize upd (upd (upd H a (.tup [.int 0])) b (.tup [.int 0])) c (.tup [.ref a, .ref b]) = HC
      intro sc tc
      refine ⟨_, rfl, _, rfl, _, _, rfl, rfl, 1, _, rfl, by omega, fun Z nZ => ?_⟩
      rw [show (n + m - 1).toNat = (n + m).toNat - 1 by omega]
      refine lc_range (lo := 1) (n := (n + m).toNat - 1) (fun i H5 => SameBut Z HC H5 ∧ ∃ es, H5 Z = some (.lst es) ∧ Paired (TP H5) es (singB 1 i)) ⟨SameBut.upd, [], upd_same, .nil⟩ (fun i H5 hi hP => ?_) (fun H5 hP => ?_)
      · obtain ⟨sb, es, hZ, pe⟩ := hP
        refine ⟨rfl, ?_⟩
        refine ⟨_, rfl, (by show 1 ≤ sizeLine; decide), fun p np => ?_⟩
        obtain ⟨h1, h2, es', h3, h4⟩ := one_step (x := 1 + (i : Int)) (y := 1 + (i : Int)) sb hZ np pe rfl
        have lt : es.length = i := by rw [pe.length, singB_len]
        exact ⟨es, h1, by omega, h2, es', h3, by rw [singB_snoc]; exact h4⟩
      · obtain ⟨sb, es, hZ, pe⟩ := hP
        have s5 : Same HC H5 := fun b o e => sb b o (ne_of_none e nZ) e
        refine ⟨Z, es, rfl, .inl ⟨.inl (.inl hZ), fun T nT => ?_⟩⟩
        have w6 := same_upd (o := .tup es) nT
        have tT : TT (upd H5 T (.tup es)) (.ref T) (singB 1 ((n + m).toNat - 1)) := ⟨T, es, rfl, upd_same, Paired.mapP pe fun _ _ h => h.same w6⟩
        refine ⟨[[0], [0]], singB 1 ((n + m).toNat - 1), tc.same (Same.trans s5 w6), tT, by rw [singB_len]; show 2 + _ ≤ _; omega, fun v H6 s6 tv => ⟨(by show 3 ≤ sizeLine; decide), fun W nW => ?_⟩⟩
        have w7 := same_upd (o := .tup [.int n, .int m, v]) nW
        exact ⟨.ref W, rfl, Same.trans sc (Same.trans s5 (Same.trans w6 (Same.trans s6 w7))), W, v, rfl, upd_same, tv.same w7⟩
    rintro σ H1 ⟨vb, rfl, s1, db⟩
    refine ⟨fun σ H' => ∃ vo, σ = [some (.ref x), some (.int n), some (.int m), some (.ref L), some vb, some vo, none, none, none, none] ∧ Same H1 H' ∧ DGv H' vo (n + 1) m (singB 0 ((n + 1) + m).toNat), ?_, ?_⟩
    · refine ⟨_, rfl, _, _, rfl, rfl, _, rfl, _, rfl, _, rfl, _, _, rfl, rfl, _, _, rfl, rfl, n + m + 1, rfl, by omega, by omega, fun Z nZ => ?_⟩
      rw [show (n + m + 1).toNat = ((n + 1) + m).toNat by omega]
      refine lc_range (lo := 0) (n := ((n + 1) + m).toNat) (fun i H5 => SameBut Z H1 H5 ∧ ∃ es, H5 Z = some (.lst es) ∧ Paired (TP H5) es (singB 0 i)) ⟨SameBut.upd, [], upd_same, .nil⟩ (fun i H5 hi hP => ?_) (fun H5 hP => ?_)
      · obtain ⟨sb, es, hZ, pe⟩ := hP
        refine ⟨rfl, ?_⟩
        refine ⟨_, rfl, (by show 1 ≤ sizeLine; decide), fun p np => ?_⟩
        obtain ⟨h1, h2, es', h3, h4⟩ := one_step (x := 0 + (i : Int)) (y := 0 + (i : Int)) sb hZ np pe rfl
        have lt : es.length = i := by rw [pe.length, singB_len]
        exact ⟨es, h1, by omega, h2, es', h3, by rw [singB_snoc]; exact h4⟩
      · obtain ⟨sb, es, hZ, pe⟩ := hP
        have s5 : Same H1 H5 := fun b o e => sb b o (ne_of_none e nZ) e
        refine ⟨Z, es, rfl, .inl ⟨.inl (.inl hZ), fun T nT => ?_⟩⟩
        have w6 := same_upd (o := .tup es) nT
        have tT : TT (upd H5 T (.tup es)) (.ref T) (singB 0 (((n + 1) + m).toNat)) := ⟨T, es, rfl, upd_same, Paired.mapP pe fun _ _ h => h.same w6⟩
        refine ⟨(by show 3 ≤ sizeLine; decide), fun W nW => ?_⟩
        have w7 := same_upd (o := .tup [.int (n + 1), .int m, .ref T]) nW
        exact ⟨.ref W, rfl, Same.trans s5 (Same.trans w6 w7), W, .ref T, rfl, upd_same, tT.same w7⟩
    rintro σ H2 ⟨vo, rfl, s2, do_⟩
    refine ⟨fun σ H' => ∃ vc, σ = [some (.ref x), some (.int n), some (.int m), some (.ref L), some vb, some vo, some vc, none, none, none] ∧ Same H2 H' ∧ DGv H' vc n m (singB 0 (n + m).toNat), ?_, ?_⟩
    · refine ⟨_, rfl, _, rfl, _, rfl, _, rfl, _, _, rfl, rfl, n + m, rfl, by omega, by omega, fun Z nZ => ?_⟩
      refine lc_range (lo := 0) (n := (n + m).toNat) (fun i H5 => SameBut Z H2 H5 ∧ ∃ es, H5 Z = some (.lst es) ∧ Paired (TP H5) es (singB 0 i)) ⟨SameBut.upd, [], upd_same, .nil⟩ (fun i H5 hi hP => ?_) (fun H5 hP => ?_)
      · obtain ⟨sb, es, hZ, pe⟩ := hP
        refine ⟨rfl, ?_⟩
        refine ⟨_, rfl, (by show 1 ≤ sizeLine; decide), fun p np => ?_⟩
        obtain ⟨h1, h2, es', h3, h4⟩ := one_step (x := 0 + (i : Int)) (y := 0 + (i : Int)) sb hZ np pe rfl
        have lt : es.length = i := by rw [pe.length, singB_len]
        exact ⟨es, h1, by omega, h2, es', h3, by rw [singB_snoc]; exact h4⟩
      · obtain ⟨sb, es, hZ, pe⟩ := hP
        have s5 : Same H2 H5 := fun b o e => sb b o (ne_of_none e nZ) e
        refine ⟨Z, es, rfl, .inl ⟨.inl (.inl hZ), fun T nT => ?_⟩⟩
        have w6 := same_upd (o := .tup es) nT
        have tT : TT (upd H5 T (.tup es)) (.ref T) (singB 0 ((n + m).toNat)) := ⟨T, es, rfl, upd_same, Paired.mapP pe fun _ _ h => h.same w6⟩
        refine ⟨(by show 3 ≤ sizeLine; decide), fun W nW => ?_⟩
        have w7 := same_upd (o := .tup [.int n, .int m, .ref T]) nW
        exact ⟨.ref W, rfl, Same.trans s5 (Same.trans w6 w7), W, .ref T, rfl, upd_same, tT.same w7⟩
    rintro σ H3 ⟨vc, rfl, s3, dc⟩
    have s03 := Same.trans s1 (Same.trans s2 s3)
    refine ⟨fun σ H' => ∃ tw, σ = [some (.ref x), some (.int n), some (.int m), some (.ref L), some vb, some vo, some vc, some (.ref tw), none, none] ∧ Same H3 H' ∧ H' tw = some (.tup [.int 1, .int 0]), ?_, ?_⟩
    · refine ⟨(by show 2 ≤ sizeLine; decide), fun W nW => ?_⟩
      exact ⟨W, rfl, same_upd nW, upd_same⟩
    rintro σ H4 ⟨tw, rfl, s4, hw⟩
    have s04 := Same.trans s03 s4
    have db := db.same (Same.trans s2 (Same.trans s3 s4))
    have do_ := do_.same (Same.trans s3 s4)
    have dc := dc.same s4
    have hx := sqT_same s04 hx
    have hL := s04 _ _ hL
    have pT : Paired (TermP K H4) ts (gs.map (toT n m)) := Paired.mapP pT fun _ _ h => h.same s04
    have q : ∀ H', Same H4 H' → Q (.bl true) H' := fun H' s' => q H' (Same.trans s04 s')
    clear s1 s2 s3 s4 s03 s04
    have hs : okSz n m := by unfold okSz; omega
    have ok1 := singB_ok (lo := 1) (n := n) (m := m) (N := (n + m).toNat - 1) (by omega) (by omega) (by omega)
    have sing : ∀ {k q : Int}, 0 ≤ k → k ≤ 3 → 0 ≤ q → q ≤ 2 → IsDg k q (singB 0 (k + q).toNat) ∧ DgOk k q (singB 0 (k + q).toNat) := fun {k q} a b c d => by
      have dg := singB_dg (n := k) (m := q) (siz_iff.mpr ⟨by omega, by omega, by omega, by omega, by omega⟩)
      exact ⟨dg, (dg.few.more (by decide)).ok (by omega) (by omega)⟩
    have sg1 := sing (k := n + 1) (q := m) (by omega) (by omega) m0 m2
    have sg0 := sing (k := n) (q := m) n0 (by omega) m0 m2
    have lT := pT.length
    rw [List.length_map] at lT
    refine ⟨fun σ H' => σ = [some (.ref x), some (.int n), some (.int m), some (.ref L), some vb, some vo, some vc, some (.ref tw), none, none] ∧ Same H4 H', ?_, ?_⟩
    · refine ⟨(by show 2 ≤ sizeLine; decide), fun t nt => ⟨_, rfl, _, rfl, t, L, 4, 0, -1, 0, ts, rfl, .inl (.inl upd_same), .inl ⟨by decide +kernel, fun H5 s5 => ?_⟩⟩⟩
      refine ⟨rfl, _, rfl, if_neg_of (by decide +kernel) ?_⟩
      have s5' := Same.trans (same_upd (o := .tup [.int 4, .int 0]) nt) s5
      refine ⟨(by show 2 ≤ sizeLine; decide), fun t2 nt2 => ⟨_, rfl, _, rfl, t2, L, 0, 21, -1, 0, ts, rfl, .inl (.inl upd_same), .inl ⟨by decide +kernel, fun H6 s6 => ?_⟩⟩⟩
      exact ⟨rfl, _, rfl, if_neg_of (by decide +kernel) ⟨rfl, Same.trans s5' (Same.trans (same_upd nt2) s6)⟩⟩
    rintro σ H5 ⟨rfl, s5⟩
    refine ⟨fun σ H' => ∃ v8, σ = [some (.ref x), some (.int n), some (.int m), some (.ref L), some vb, some vo, some vc, some (.ref tw), v8, none] ∧ Same H4 H', ?_, ?_⟩
    · refine ⟨_, rfl, (by show 2 ≤ sizeLine; decide), fun t1 n1 => ⟨_, rfl, (by show 2 ≤ sizeLine; decide), fun t2 n2 => ⟨(by show 2 ≤ sizeLine; decide), fun t3 n3 => ⟨(by show 2 ≤ sizeLine; decide), fun t4 n4 => ⟨(by show 4 ≤ sizeLine; decide), fun Z nZ => ?_⟩⟩⟩⟩⟩
      have w1 := same_upd (o := .tup [.int (-1), .int 1]) n1
      have w2 := same_upd (o := .tup [.int 1, .int (-1)]) n2
      have w3 := same_upd (o := .tup [.int 5, .int 4]) n3
      have w4 := same_upd (o := .tup [.int 9, .int 0]) n4
      have w5 := same_upd (o := .lst [.ref t1, .ref t2, .ref t3, .ref t4]) nZ
      have sB := Same.trans s5 (Same.trans w1 (Same.trans w2 (Same.trans w3 (Same.trans w4 w5))))
      have h1 := w5 _ _ (w4 _ _ (w3 _ _ (w2 _ _ (show upd H5 t1 (.tup [.int (-1), .int 1]) t1 = _ from upd_same))))
      have h2 := w5 _ _ (w4 _ _ (w3 _ _ (show upd (upd H5 t1 (.tup [.int (-1), .int 1])) t2 (.tup [.int 1, .int (-1)]) t2 = _ from upd_same)))
      have h3 := w5 _ _ (w4 _ _ (show upd (upd (upd H5 t1 (.tup [.int (-1), .int 1])) t2 (.tup [.int 1, .int (-1)])) t3 (.tup [.int 5, .int 4]) t3 = _ from upd_same))
      have h4 := w5 _ _ (show upd (upd (upd (upd H5 t1 (.tup [.int (-1), .int 1])) t2 (.tup [.int 1, .int (-1)])) t3 (.tup [.int 5, .int 4])) t4 (.tup [.int 9, .int 0]) t4 = _ from upd_same)
      have hZ : upd (upd (upd (upd (upd H5 t1 (.tup [.int (-1), .int 1])) t2 (.tup [.int 1, .int (-1)])) t3 (.tup [.int 5, .int 4])) t4 (.tup [.int 9, .int 0])) Z (.lst [.ref t1, .ref t2, .ref t3, .ref t4]) Z = some (.lst [.ref t1, .ref t2, .ref t3, .ref t4]) := upd_same
      revert sB h1 h2 h3 h4 hZ
      generalize upd (upd (upd (upd (upd H5 t1 (.tup [.int (-1), .int 1])) t2 (.tup [.int 1, .int (-1)])) t3 (.tup [.int 5, .int 4])) t4 (.tup [.int 9, .int 0])) Z (.lst [.ref t1, .ref t2, .ref t3, .ref t4]) = HB
      intro sB h1 h2 h3 h4 hZ
      have get : ∀ (i : Nat) (y : V), ([.ref t1, .ref t2, .ref t3, .ref t4] : List V)[i]? = some y → ∃ t a b, y = .ref t ∧ HB t = some (.tup [.int a, .int b]) ∧ ¬ okSz a b := fun i y hy => by
        match i, hy with
        | 0, hy => exact ⟨t1, -1, 1, (Option.some.inj hy).symm, h1, by unfold okSz; omega⟩
        | 1, hy => exact ⟨t2, 1, -1, (Option.some.inj hy).symm, h2, by unfold okSz; omega⟩
        | 2, hy => exact ⟨t3, 5, 4, (Option.some.inj hy).symm, h3, by unfold okSz; omega⟩
        | 3, hy => exact ⟨t4, 9, 0, (Option.some.inj hy).symm, h4, by unfold okSz; omega⟩
        | k + 4, hy => exact nomatch hy
      refine ⟨Z, rfl, ⟨_, .inl (.inl hZ)⟩, for_list (K := K) (xs := [.ref t1, .ref t2, .ref t3, .ref t4]) (fun i σ H' => ∃ v8, σ = [some (.ref x), some (.int n), some (.int m), some (.ref L), some vb, some vo, some vc, some (.ref tw), v8, none] ∧ Same HB H')
        ⟨none, rfl, Same.refl _⟩ (fun i σ H' _ ⟨_, _, s'⟩ => .inl (.inl (s' _ _ hZ))) (fun i y σ H6 hy hP => ?_) (fun σ H6 hP => ?_)⟩
      · obtain ⟨v8, rfl, s6⟩ := hP
        obtain ⟨t, a, b, rfl, ht, no⟩ := get i y hy
        have ht6 := s6 _ _ ht
        refine ⟨_, rfl, _, rfl, t, _, 0, .int a, rfl, rfl, .inl (.inl ht6), atI_nat (j := 0) rfl, _, rfl, t, _, 1, .int b, rfl, rfl, .inl (.inl ht6), atI_nat (j := 1) rfl, _, rfl, _, rfl, (by show 2 ≤ sizeLine; decide), fun tt ntt => ⟨(by show 1 ≤ sizeLine; decide), fun Y nY => ?_⟩⟩
        have v1 := same_upd (o := .tup [vb, .ref tw]) ntt
        have v2 := same_upd (o := .lst [.ref tt]) nY
        have v12 := Same.trans v1 v2
        refine ⟨x, Y, p, d, a, b, [.ref tt], rfl, sqT_same (Same.trans sB (Same.trans s6 v12)) hx, .inr (.inl ⟨hW, no, fun H7 s7 => ?_⟩)⟩
        exact ⟨rfl, _, rfl, if_neg_of (by decide +kernel) ⟨_, rfl, Same.trans s6 (Same.trans v12 s7)⟩⟩
      · obtain ⟨v8, rfl, s6⟩ := hP
        exact ⟨v8, rfl, Same.trans sB s6⟩
    rintro σ H6 ⟨v8, rfl, s6⟩
    refine ⟨fun σ H' => σ = [some (.ref x), some (.int n), some (.int m), some (.ref L), some vb, some vo, some vc, some (.ref tw), v8, none] ∧ Same H4 H', ?_, ?_⟩
    · refine ⟨_, rfl, _, rfl, _, rfl, _, rfl, _, rfl, _, rfl, (by show 2 ≤ sizeLine; decide), fun ta nta => ⟨(by show 1 ≤ sizeLine; decide), fun Y nY => ?_⟩⟩
      have v1 := same_upd (o := .tup [vb, .ref tw]) nta
      have v2 := same_upd (o := .lst [.ref ta]) nY
      have s9 := Same.trans s6 (Same.trans v1 v2)
      have hta := v2 _ _ (show upd H6 ta (.tup [vb, .ref tw]) ta = _ from upd_same)
      have hY : upd (upd H6 ta (.tup [vb, .ref tw])) Y (.lst [.ref ta]) Y = some (.lst [.ref ta]) := upd_same
      revert s9 hta hY
      generalize upd (upd H6 ta (.tup [vb, .ref tw])) Y (.lst [.ref ta]) = H9
      intro s9 hta hY
      have pR : Paired (TermP K H9) [.ref ta] [⟨n, m, [0] :: [0] :: singB 1 ((n + m).toNat - 1), 1, 0⟩] := .cons ⟨ta, vb, tw, rfl, .inl (.inl hta), db.same s9, .inl (.inl (s9 _ _ hw))⟩ .nil
      have lr : ([.ref ta] : List V).length = 1 := rfl
      refine ⟨L, Y, ts, _, rfl, rfl, s9 _ _ hL, hY, by omega, fun W nW => ?_⟩
      have v3 := same_upd (o := .lst (ts ++ [.ref ta])) nW
      refine ⟨x, W, p, d, n, m, ts ++ [.ref ta], rfl, sqT_same (Same.trans s9 v3) hx, .inr (.inr ⟨hW, hs, gs, ⟨n, m, [0] :: [0] :: singB 1 ((n + m).toNat - 1), 1, 0⟩ :: [], M, D, ⟨n, m, [0] :: [0] :: singB 1 ((n + m).toNat - 1), 1, 0⟩, [], "diagram", .inl (.inl upd_same), paired_app (Paired.mapP pT fun _ _ h => h.same (Same.trans s9 v3)) (Paired.mapP pR fun _ _ h => h.same v3), ga, na, hD, hD2, hM, by rw [List.length_append]; omega, rfl, ⟨ok1, .inl ⟨two_no, rfl⟩⟩, fun H10 s10 => ?_⟩)⟩
      exact ⟨rfl, _, rfl, if_neg_of (by decide +kernel) ⟨rfl, Same.trans s9 (Same.trans v3 s10)⟩⟩
    rintro σ H7 ⟨rfl, s7⟩
    refine ⟨fun σ H' => σ = [some (.ref x), some (.int n), some (.int m), some (.ref L), some vb, some vo, some vc, some (.ref tw), v8, none] ∧ Same H4 H', ?_, ?_⟩
    · refine ⟨_, rfl, _, rfl, _, rfl, _, rfl, _, rfl, _, rfl, (by show 2 ≤ sizeLine; decide), fun tc ntc => ⟨_, rfl, _, rfl, (by show 2 ≤ sizeLine; decide), fun ta nta => ⟨(by show 2 ≤ sizeLine; decide), fun Y nY => ?_⟩⟩⟩
      have v0 := same_upd (o := .tup [vo, .ref tw]) ntc
      have v1 := same_upd (o := .tup [vb, .ref tw]) nta
      have v2 := same_upd (o := .lst [.ref tc, .ref ta]) nY
      have s9 := Same.trans s7 (Same.trans v0 (Same.trans v1 v2))
      have htc := v2 _ _ (v1 _ _ (show upd H7 tc (.tup [vo, .ref tw]) tc = _ from upd_same))
      have hta := v2 _ _ (show upd (upd H7 tc (.tup [vo, .ref tw])) ta (.tup [vb, .ref tw]) ta = _ from upd_same)
      have hY : upd (upd (upd H7 tc (.tup [vo, .ref tw])) ta (.tup [vb, .ref tw])) Y (.lst [.ref tc, .ref ta]) Y = some (.lst [.ref tc, .ref ta]) := upd_same
      revert s9 hta htc hY
      generalize upd (upd (upd H7 tc (.tup [vo, .ref tw])) ta (.tup [vb, .ref tw])) Y (.lst [.ref tc, .ref ta]) = H9
      intro s9 htc hta hY
      have pR : Paired (TermP K H9) [.ref tc, .ref ta] [⟨n + 1, m, singB 0 ((n + 1) + m).toNat, 1, 0⟩, ⟨n, m, [0] :: [0] :: singB 1 ((n + m).toNat - 1), 1, 0⟩] := .cons ⟨tc, vo, tw, rfl, .inl (.inl htc), do_.same s9, .inl (.inl (s9 _ _ hw))⟩ (.cons ⟨ta, vb, tw, rfl, .inl (.inl hta), db.same s9, .inl (.inl (s9 _ _ hw))⟩ .nil)
      have lr : ([.ref tc, .ref ta] : List V).length = 2 := rfl
      refine ⟨L, Y, ts, _, rfl, rfl, s9 _ _ hL, hY, by omega, fun W nW => ?_⟩
      have v3 := same_upd (o := .lst (ts ++ [.ref tc, .ref ta])) nW
      refine ⟨x, W, p, d, n, m, ts ++ [.ref tc, .ref ta], rfl, sqT_same (Same.trans s9 v3) hx, .inr (.inr ⟨hW, hs, gs, ⟨n + 1, m, singB 0 ((n + 1) + m).toNat, 1, 0⟩ :: [⟨n, m, [0] :: [0] :: singB 1 ((n + m).toNat - 1), 1, 0⟩], M, D, ⟨n + 1, m, singB 0 ((n + 1) + m).toNat, 1, 0⟩, [⟨n, m, [0] :: [0] :: singB 1 ((n + m).toNat - 1), 1, 0⟩], "number", .inl (.inl upd_same), paired_app (Paired.mapP pT fun _ _ h => h.same (Same.trans s9 v3)) (Paired.mapP pR fun _ _ h => h.same v3), ga, na, hD, hD2, hM, by rw [List.length_append]; omega, rfl, ⟨sg1.2, .inr (.inl ⟨sg1.1, fun z => absurd z.1 (by show ¬ n + 1 = n; omega), rfl⟩)⟩, fun H10 s10 => ?_⟩)⟩
      exact ⟨rfl, _, rfl, if_neg_of (by decide +kernel) ⟨rfl, Same.trans s9 (Same.trans v3 s10)⟩⟩
    rintro σ H8 ⟨rfl, s8⟩
    refine ⟨_, rfl, _, rfl, _, rfl, _, rfl, _, rfl, _, rfl, (by show 2 ≤ sizeLine; decide), fun tc ntc => ⟨_, rfl, _, rfl, (by show 2 ≤ sizeLine; decide), fun ta nta => ⟨(by show 2 ≤ sizeLine; decide), fun Y nY => ?_⟩⟩⟩
    have v0 := same_upd (o := .tup [vc, .ref tw]) ntc
    have v1 := same_upd (o := .tup [vb, .ref tw]) nta
    have v2 := same_upd (o := .lst [.ref tc, .ref ta]) nY
    have s9 := Same.trans s8 (Same.trans v0 (Same.trans v1 v2))
    have htc := v2 _ _ (v1 _ _ (show upd H8 tc (.tup [vc, .ref tw]) tc = _ from upd_same))
    have hta := v2 _ _ (show upd (upd H8 tc (.tup [vc, .ref tw])) ta (.tup [vb, .ref tw]) ta = _ from upd_same)
    have hY : upd (upd (upd H8 tc (.tup [vc, .ref tw])) ta (.tup [vb, .ref tw])) Y (.lst [.ref tc, .ref ta]) Y = some (.lst [.ref tc, .ref ta]) := upd_same
    revert s9 hta htc hY
    generalize upd (upd (upd H8 tc (.tup [vc, .ref tw])) ta (.tup [vb, .ref tw])) Y (.lst [.ref tc, .ref ta]) = H9
    intro s9 htc hta hY
    have pR : Paired (TermP K H9) [.ref tc, .ref ta] [⟨n, m, singB 0 (n + m).toNat, 1, 0⟩, ⟨n, m, [0] :: [0] :: singB 1 ((n + m).toNat - 1), 1, 0⟩] := .cons ⟨tc, vc, tw, rfl, .inl (.inl htc), dc.same s9, .inl (.inl (s9 _ _ hw))⟩ (.cons ⟨ta, vb, tw, rfl, .inl (.inl hta), db.same s9, .inl (.inl (s9 _ _ hw))⟩ .nil)
    have lr : ([.ref tc, .ref ta] : List V).length = 2 := rfl
    refine ⟨L, Y, ts, _, rfl, rfl, s9 _ _ hL, hY, by omega, fun W nW => ?_⟩
    have v3 := same_upd (o := .lst (ts ++ [.ref tc, .ref ta])) nW
    refine ⟨x, W, p, d, n, m, ts ++ [.ref tc, .ref ta], rfl, sqT_same (Same.trans s9 v3) hx, .inr (.inr ⟨hW, hs, gs, ⟨n, m, singB 0 (n + m).toNat, 1, 0⟩ :: [⟨n, m, [0] :: [0] :: singB 1 ((n + m).toNat - 1), 1, 0⟩], M, D, ⟨n, m, singB 0 (n + m).toNat, 1, 0⟩, [⟨n, m, [0] :: [0] :: singB 1 ((n + m).toNat - 1), 1, 0⟩], "value", .inl (.inl upd_same), paired_app (Paired.mapP pT fun _ _ h => h.same (Same.trans s9 v3)) (Paired.mapP pR fun _ _ h => h.same v3), ga, na, hD, hD2, hM, by rw [List.length_append]; omega, rfl, ⟨sg0.2, .inr (.inr ⟨sg0.1, rfl, rfl, isN_10, rfl⟩)⟩, fun H10 s10 => ?_⟩)⟩
    refine ⟨rfl, ?_⟩
    rw [show decide (V.str (("!" : Str) ++ ("value" : Str)) = V.str "!value") = true by decide +kernel]
    exact q H10 (Same.trans s9 (Same.trans v3 s10))
end

/-! ### what a list of terms adds up to: a whole number for each diagram -/
/-- a number told by a whole number: how many Dth parts, or the rest by p -/
def kv (p : Int) (D : Nat) (x : Int × Int) : Int := if p = 0 then x.1 * ((D : Int) / x.2) else x.1
def fin (p : Int) (D : Nat) (t : Int) : Int × Int := if p = 0 then low t D else (t % p, 1)
def tot (p : Int) (D : Nat) (b : BS) : Asc → Int
  | [] => 0
  | e :: L => (if e.1 = b then kv p D e.2 else 0) + tot p D b L
theorem tot_app (p : Int) (D : Nat) (b : BS) : ∀ L L', tot p D b (L ++ L') = tot p D b L + tot p D b L'
  | [], L' => by show tot p D b L' = 0 + _; omega
  | e :: L, L' => by
    show _ + tot p D b (L ++ L') = _ + tot p D b L + _
    rw [tot_app p D b L L']
    omega
theorem tot_one (p : Int) (D : Nat) (b : BS) (e : BS × Int × Int) : tot p D b [e] = if e.1 = b then kv p D e.2 else 0 := by
  show _ + 0 = _
  omega
theorem tot_rev (p : Int) (D : Nat) (b : BS) : ∀ L, tot p D b L.reverse = tot p D b L
  | [] => rfl
  | e :: L => by
    rw [List.reverse_cons, tot_app, tot_rev p D b L, tot_one]
    show _ = _ + _
    omega
theorem fin_zero {p : Int} {D : Nat} (hp : p = 0 ∨ p ∈ primes) (hD : 0 < D) : fin p D 0 = (0, 1) := by
  unfold fin
  by_cases c : p = 0
  · rw [if_pos c]
    have : low 0 (D : Int) = low 0 1 := low_congr (by omega) (by decide) (by omega)
    rw [this]
    decide
  · rw [if_neg c, Int.zero_emod]
theorem low_scale {A B C E : Int} (hB : B ≠ 0) (hE : E ≠ 0) (h : A * E = C * B) : low A B = low C E := low_congr hB hE h
theorem fin_add {p : Int} {M D : Nat} {t : Int} {x : Int × Int} (hp : p = 0 ∨ p ∈ primes) (hD : 0 < D) (hx : NB p M D x) : addN p (fin p D t) x = fin p D (t + kv p D x) := by
  unfold addN fin kv
  by_cases c : p = 0
  · rw [if_pos c, if_pos c, if_pos c]
    rw [if_pos c]
    have hxok := hx.ok
    rw [c] at hxok
    have px := isN_z hxok
    obtain ⟨_, q, eq⟩ := hx.sm c
    have e2 : (D : Int) / x.2 = q := Int.ediv_eq_of_eq_mul_right (by omega) eq
    rw [e2]
    obtain ⟨cr, pl⟩ := low_cross (a := t) (b := (D : Int)) (u := (low t D).1) (v := (low t D).2) (by omega) rfl
    generalize (low t (D : Int)).1 = u at *
    generalize (low t (D : Int)).2 = v at *
    refine low_congr (by have := Int.mul_pos pl px; omega) (by omega) ?_
    rw [Int.add_mul]
    have a1 : u * x.2 * (D : Int) = t * (v * x.2) := by
      rw [Int.mul_right_comm, cr, Int.mul_assoc]
    have a2 : x.1 * v * (D : Int) = x.1 * q * (v * x.2) := by
      rw [eq]
      ac_rfl
    rw [a1, a2, ← Int.add_mul]
  · rw [if_neg c, if_neg c, if_neg c]
    rw [if_neg c]
    show ((t % p + x.1) % p, (1 : Int)) = _
    rw [Int.emod_add_emod]
theorem numA_put {A : Asc} {b c : BS} {x : Int × Int} : numA (putA A b x) c = if c = b then x else numA A c := by
  unfold numA
  have h : getA (putA A b x) c = if c = b then some x else getA A c := by
    unfold putA
    split
    · rename_i hb
      have : ∀ A : Asc, getA (A.map fun e => if e.1 = b then (e.1, x) else e) c = if c = b then (getA A c).map fun _ => x else getA A c := by
        intro A
        induction A with
        | nil => rw [List.map_nil, getA_nil]; split <;> rfl
        | cons e A ih =>
          rw [List.map_cons, getA_cons, getA_cons, ih]
          by_cases c1 : e.1 = b
          · rw [if_pos c1]
            by_cases c2 : c = b
            · rw [if_pos c2, if_pos (by rw [c1, c2]), if_pos c2, if_pos (by rw [c1, c2])]
              rfl
            · rw [if_neg c2, if_neg c2, if_neg (fun z => c2 (by rw [← c1]; exact z.symm)), if_neg (fun z => c2 (by rw [← c1]; exact z.symm))]
          · rw [if_neg c1]
            by_cases c2 : c = b
            · rw [if_pos c2, if_pos c2, if_neg (fun z => c1 (by rw [z]; exact c2)), if_neg (fun z => c1 (by rw [z]; exact c2))]
            · rw [if_neg c2, if_neg c2]
      rw [this A]
      by_cases c2 : c = b
      · rw [if_pos c2, if_pos c2, c2]
        obtain ⟨y, hy⟩ := Option.isSome_iff_exists.mp hb
        rw [hy]
        rfl
      · rw [if_neg c2, if_neg c2]
    · rename_i hb
      have hb : getA A b = none := Option.not_isSome_iff_eq_none.mp hb
      have : ∀ A : Asc, getA A b = none → getA (A ++ [(b, x)]) c = if c = b then some x else getA A c := by
        intro A
        induction A with
        | nil =>
          intro _
          rw [List.nil_append, getA_cons, getA_nil]
          by_cases c2 : c = b
          · rw [if_pos c2, if_pos c2.symm]
          · rw [if_neg c2, if_neg (fun z => c2 z.symm)]
        | cons e A ih =>
          intro hn
          rw [getA_cons] at hn
          split at hn
          · exact nomatch hn
          · rename_i c1
            rw [List.cons_append, getA_cons, getA_cons, ih hn]
            by_cases c2 : c = b
            · rw [if_pos c2, if_neg (fun z => c1 (by rw [z]; exact c2)), if_pos c2]
            · rw [if_neg c2, if_neg c2]
      exact this A hb
  rw [h]
  split <;> rfl
/-- the number of a diagram in a list of terms -/
theorem numA_sum {p : Int} {M D : Nat} {L : Asc} (hp : p = 0 ∨ p ∈ primes) (hD : 0 < D) (h : NA p M D L) (b : BS) : numA (sumA p L) b = fin p D (tot p D b L) := by
  induction L using rev_ind with
  | h0 => exact (fin_zero hp hD).symm
  | h1 L e ih =>
    rw [sumA_snoc]
    unfold addA
    rw [numA_put, tot_app, tot_one]
    have ih := ih fun x hx => h x (List.mem_append_left _ hx)
    have he := h e (List.mem_append_right _ (.head _))
    by_cases c : b = e.1
    · rw [if_pos c, if_pos c.symm, ← c, ih]
      exact fin_add hp hD he
    · rw [if_neg c, if_neg (fun z => c z.symm), Int.add_zero]
      exact ih
theorem fin_ne {p : Int} {D : Nat} (hp : p = 0 ∨ p ∈ primes) (hD : 0 < D) {t : Int} : fin p D t ≠ fin p D (t + kv p D (1, 1)) := fun h => by
  unfold fin kv at h
  by_cases c : p = 0
  · rw [if_pos c, if_pos c, if_pos c] at h
    have e1 := (low_cross (a := t) (b := (D : Int)) (u := (low t D).1) (v := (low t D).2) (by omega) rfl)
    have e2 := (low_cross (a := t + 1 * ((D : Int) / 1)) (b := (D : Int)) (u := (low (t + 1 * ((D : Int) / 1)) D).1) (v := (low (t + 1 * ((D : Int) / 1)) D).2) (by omega) rfl)
    rw [← h] at e2
    obtain ⟨a1, pl⟩ := e1
    obtain ⟨a2, _⟩ := e2
    rw [a1, Int.ediv_one, Int.one_mul, Int.add_mul] at a2
    have := Int.mul_pos (show (0 : Int) < D by omega) pl
    omega
  · rw [if_neg c, if_neg c, if_neg c] at h
    have h := congrArg Prod.fst h
    have h : t % p = (t + 1) % p := h
    have pp : 2 ≤ p := by
      rcases hp with hp | hp
      · exact absurd hp c
      · exact (prime_pos hp).1
    have h2 := Int.emod_eq_emod_iff_emod_sub_eq_zero.mp h.symm
    rw [show t + 1 - t = 1 by omega, Int.emod_eq_of_lt (by decide) (by omega)] at h2
    exact absurd h2 (by decide)
/-! ### sums that are put in order -/
def Can (p : Int) (A : Asc) : Prop := ∀ e ∈ A, isN p e.2.1 e.2.2 = true
theorem NA.can {p : Int} {M D : Nat} {A : Asc} (h : NA p M D A) : Can p A := fun e he => (h e he).ok
theorem mem_norm {N : Nat} {A : Asc} {e : BS × Int × Int} : e ∈ norm N A ↔ e ∈ A ∧ e.2.1 ≠ 0 := by
  rw [(norm_perm N A).mem_iff, List.mem_filter]
  unfold nzA
  rw [decide_eq_true_iff]
theorem norm_nd {N : Nat} {A : Asc} (nd : (A.map (·.1)).Nodup) : ((norm N A).map (·.1)).Nodup :=
  ((norm_perm N A).map _).nodup_iff.mpr (List.Nodup.sublist (List.filter_sublist.map _) nd)
theorem norm_ga {N : Nat} {A : Asc} (g : GA N A) : GA N (norm N A) := fun e he => g e (mem_norm.mp he).1
theorem getA_some {A : Asc} (nd : (A.map (·.1)).Nodup) {b : BS} {x : Int × Int} : getA A b = some x ↔ (b, x) ∈ A :=
  ⟨getA_mem, fun h => getA_of nd h⟩
theorem numA_norm {p : Int} {N : Nat} {A : Asc} (nd : (A.map (·.1)).Nodup) (cn : Can p A) (b : BS) : numA (norm N A) b = numA A b := by
  unfold numA
  cases e : getA A b with
  | none =>
    rw [getA_no (A := norm N A)]
    intro h
    obtain ⟨z, hz, rfl⟩ := List.mem_map.mp h
    have := getA_of nd (mem_norm.mp hz).1
    rw [e] at this
    exact nomatch this
  | some x =>
    have hx := getA_mem e
    by_cases c : x.1 = 0
    · have hc := cn _ hx
      rw [show ((b, x) : BS × Int × Int).2.1 = 0 from c] at hc
      have h1 : x = (0, 1) := Prod.ext c (zero_one hc)
      rw [getA_no (A := norm N A), h1]
      · rfl
      · intro h
        obtain ⟨z, hz, ez⟩ := List.mem_map.mp h
        have hz := mem_norm.mp hz
        have g1 := getA_of nd hz.1
        rw [ez, e] at g1
        have g1 := Option.some.inj g1
        exact hz.2 (by rw [← g1]; exact c)
    · rw [(getA_some (norm_nd nd)).mpr (mem_norm.mpr ⟨hx, c⟩)]
/-- equal numbers everywhere: the same terms -/
theorem norm_mem {p : Int} {N : Nat} {A B : Asc} (na : (A.map (·.1)).Nodup) (nb : (B.map (·.1)).Nodup) (h : ∀ b, numA A b = numA B b) {e : BS × Int × Int} (he : e ∈ norm N A) : e ∈ norm N B := by
  have he := mem_norm.mp he
  refine mem_norm.mpr ⟨?_, he.2⟩
  have g := getA_of na he.1
  have h1 := h e.1
  unfold numA at h1
  rw [g] at h1
  cases hb : getA B e.1 with
  | none =>
    rw [hb] at h1
    have h1 : e.2 = (0, 1) := h1
    exact absurd (by rw [h1]) he.2
  | some y =>
    rw [hb] at h1
    have h1 : e.2 = y := h1
    have := getA_mem hb
    rw [← h1] at this
    exact this
theorem sameA_of {A B : Asc} (na : (A.map (·.1)).Nodup) (nb : (B.map (·.1)).Nodup) (h1 : ∀ e ∈ A, e ∈ B) (h2 : ∀ e ∈ B, e ∈ A) : sameA A B = true := by
  unfold sameA
  have l1 := SD.pigeon (A.map (·.1)) (B.map (·.1)) na fun x hx => by
    obtain ⟨e, he, rfl⟩ := List.mem_map.mp hx
    exact List.mem_map_of_mem (h1 e he)
  have l2 := SD.pigeon (B.map (·.1)) (A.map (·.1)) nb fun x hx => by
    obtain ⟨e, he, rfl⟩ := List.mem_map.mp hx
    exact List.mem_map_of_mem (h2 e he)
  rw [List.length_map, List.length_map] at l1 l2
  rw [decide_eq_true (by omega), Bool.true_and, List.all_eq_true]
  intro e he
  rw [getA_of nb (h1 e he)]
  exact decide_eq_true rfl
theorem sameA_num {A B : Asc} (na : (A.map (·.1)).Nodup) (nb : (B.map (·.1)).Nodup) (h : sameA A B = true) (b : BS) : numA A b = numA B b := by
  unfold sameA at h
  rw [Bool.and_eq_true, List.all_eq_true] at h
  obtain ⟨hl, h⟩ := h
  have hl := of_decide_eq_true hl
  have sub : ∀ e ∈ A, getA B e.1 = some e.2 := fun e he => by
    have h1 := h e he
    cases g : getA B e.1 with
    | none => rw [g] at h1; exact nomatch h1
    | some y => rw [g] at h1; rw [of_decide_eq_true h1]
  unfold numA
  cases e : getA A b with
  | some x =>
    have := sub _ (getA_mem e)
    rw [this]
  | none =>
    cases g : getA B b with
    | none => rfl
    | some y =>
      exfalso
      have := SD.pigeon (b :: A.map (·.1)) (B.map (·.1)) (List.nodup_cons.mpr ⟨getA_none e, na⟩) fun x hx => by
        rcases List.mem_cons.mp hx with rfl | hx
        · exact List.mem_map_of_mem (f := (·.1)) (getA_mem g)
        · obtain ⟨z, hz, rfl⟩ := List.mem_map.mp hx
          exact List.mem_map_of_mem (f := (·.1)) (getA_mem (sub z hz))
      rw [List.length_cons, List.length_map, List.length_map] at this
      omega
/-- the making of a sum in another order, and with one more term -/
theorem sum_again {p : Int} {M D N : Nat} {L : Asc} (hp : p = 0 ∨ p ∈ primes) (hD : 0 < D) (h : NA p M D L) : sameA (norm N (sumA p L)) (norm N (sumA p L.reverse)) = true := by
  have hr : NA p M D L.reverse := fun e he => h e (List.mem_reverse.mp he)
  have eq : ∀ b, numA (sumA p L) b = numA (sumA p L.reverse) b := fun b => by rw [numA_sum hp hD h, numA_sum hp hD hr, tot_rev]
  exact sameA_of (norm_nd (sumA_nodup p _)) (norm_nd (sumA_nodup p _)) (fun e he => norm_mem (p := p) (sumA_nodup p _) (sumA_nodup p _) eq he) (fun e he => norm_mem (p := p) (sumA_nodup p _) (sumA_nodup p _) (fun b => (eq b).symm) he)
theorem one_nb {p : Int} {D : Nat} (hp : p = 0 ∨ p ∈ primes) : NB p 1 D (1, 1) := by
  refine ⟨?_, fun _ => ⟨by decide, Int.one_dvd _⟩⟩
  unfold isN
  by_cases c : p = 0
  · rw [if_pos c]
    decide +kernel
  · rw [if_neg c, if_pos rfl, if_pos (by decide)]
    exact decide_eq_true (by have := prime_pos (hp.resolve_left c); omega)
theorem sum_more {p : Int} {M D N : Nat} {L : Asc} (hp : p = 0 ∨ p ∈ primes) (hD : 0 < D) (hM : 1 ≤ M) (h : NA p M D L) (b : BS) : sameA (norm N (sumA p L)) (norm N (sumA p (L ++ [(b, 1, 1)]))) = false := by
  have h2 : NA p M D (L ++ [(b, 1, 1)]) := fun e he => by
    rcases List.mem_append.mp he with he | he
    · exact h e he
    · rw [List.mem_singleton.mp he]
      exact (one_nb hp).more hM
  cases c : sameA (norm N (sumA p L)) (norm N (sumA p (L ++ [(b, 1, 1)]))) with
  | false => rfl
  | true =>
    have := sameA_num (norm_nd (sumA_nodup p _)) (norm_nd (sumA_nodup p _)) c b
    rw [numA_norm (sumA_nodup p _) (sumA_na hp hD h).can, numA_norm (sumA_nodup p _) (sumA_na hp hD h2).can, numA_sum hp hD h, numA_sum hp hD h2, tot_app, tot_one] at this
    rw [if_pos rfl] at this
    exact absurd this (fin_ne hp hD)
theorem sum_zero (A : Asc) : sameA A [] = decide (A.length = 0) := by
  unfold sameA
  cases A with
  | nil => rfl
  | cons e A =>
    rw [decide_eq_false (show ¬ (e :: A).length = ([] : Asc).length by simp), decide_eq_false (by simp)]
    rfl

/-! ### what only lists are written over leaves -/
def Kp (H H' : Hp) : Prop := (∀ b xs, H b = some (.tup xs) → H' b = some (.tup xs)) ∧ (∀ b o u, H b = some (.frz o u) → H' b = some (.frz o u))
theorem Kp.refl (H : Hp) : Kp H H := ⟨fun _ _ h => h, fun _ _ _ h => h⟩
theorem Kp.trans {H H' H'' : Hp} (a : Kp H H') (b : Kp H' H'') : Kp H H'' := ⟨fun x y h => b.1 x y (a.1 x y h), fun x y z h => b.2 x y z (a.2 x y z h)⟩
theorem Same.kp {H H' : Hp} (s : Same H H') : Kp H H' := ⟨fun _ _ h => s _ _ h, fun _ _ _ h => s _ _ h⟩
theorem kp_but {H H' : Hp} {r : Addr} {us : List V} (hr : H r = some (.lst us)) (sb : SameBut r H H') : Kp H H' :=
  ⟨fun b xs h => sb b _ (fun z => by rw [z, hr] at h; exact nomatch h) h, fun b o u h => sb b _ (fun z => by rw [z, hr] at h; exact nomatch h) h⟩
theorem SqT.kp {K : PySem.W.Frag} {H H' : Hp} {a : Addr} {xs : List V} (k : Kp H H') (h : SqT K H a xs) : SqT K H' a xs := by
  rcases h with (h | ⟨ob, h⟩) | h
  · exact .inl (.inl (k.1 _ _ h))
  · exact .inl (.inr ⟨ob, k.2 _ _ _ h⟩)
  · exact .inr h
theorem DGv.kp {H H' : Hp} {v : V} {n m : Int} {bs : BS} (k : Kp H H') (h : DGv H v n m bs) : DGv H' v n m bs := by
  obtain ⟨q, rfl, isk⟩ := isK_dg h
  exact dg_isK (isk.same k.1)
theorem TermP.kp {K : PySem.W.Frag} {H H' : Hp} {t : V} {e : TermD} (k : Kp H H') (h : TermP K H t e) : TermP K H' t e := by
  obtain ⟨ta, vd, na, e1, h1, h2, h3⟩ := h
  exact ⟨ta, vd, na, e1, SqT.kp k h1, DGv.kp k h2, SqT.kp k h3⟩
theorem LawD.kp {K : PySem.W.Frag} {P : Program} {w : World} {H H' : Hp} {D : Addr} {n m : Int} {A : Asc} (k : Kp H H') (h : LawD K P w H D n m A) : LawD K P w H' D n m A := by
  obtain ⟨kvs, ⟨o, h2⟩, h3, h4⟩ := h
  exact ⟨kvs, ⟨o, k.2 _ _ _ h2⟩, h3.same k.1, h4.mono fun t xs h => SqT.kp k h⟩
/-! ### lists of terms as data -/
def encE (n m : Int) (e : BS × Int × Int) : PyData := .tuple [dDG n m e.1, dP2 e.2.1 e.2.2]
theorem TermP.dp {K : PySem.W.Frag} {H : Hp} {t : V} {n m : Int} {e : BS × Int × Int} (h : TermP K H t (toT n m e)) : Dp K H t (encE n m e) := by
  obtain ⟨ta, vd, na, rfl, h1, h2, h3⟩ := h
  exact .tup h1 (.cons h2.dp (.cons (.tup h3 (.cons (.int _) (.cons (.int _) .nil))) .nil))
theorem terms_dp {K : PySem.W.Frag} {H : Hp} {n m : Int} : ∀ {us : List V} {A : Asc}, Paired (fun v e => TermP K H v (toT n m e)) us A → DpAll K H us (A.map (encE n m))
  | _, _, .nil => .nil
  | _, _, .cons h t => .cons h.dp (terms_dp t)
theorem terms_pair {K : PySem.W.Frag} {H : Hp} {n m : Int} : ∀ {us : List V} {A : Asc}, Paired (TermP K H) us (A.map (toT n m)) → Paired (fun v e => TermP K H v (toT n m e)) us A
  | [], [], .nil => .nil
  | _ :: _, _ :: _, .cons h t => .cons h (terms_pair t)
theorem pair_terms {K : PySem.W.Frag} {H : Hp} {n m : Int} : ∀ {us : List V} {A : Asc}, Paired (fun v e => TermP K H v (toT n m e)) us A → Paired (TermP K H) us (A.map (toT n m))
  | _, _, .nil => .nil
  | _, _, .cons h t => .cons h (pair_terms t)
theorem lay_encE (n m : Int) : ∀ A : Asc, PyData.canLayAll0 (A.map (encE n m)) = true ∧ PyData.depthAll (A.map (encE n m)) ≤ 6
  | [] => ⟨rfl, Nat.zero_le _⟩
  | e :: A => by
    obtain ⟨h1, h2⟩ := lay_encE n m A
    obtain ⟨h3, h4⟩ := dTT_lay e.1
    have e1 : PyData.canLay0 (encE n m e) = true := by simp [encE, dDG, dP2, PyData.canLay0, PyData.canLayAll0, h3]
    have e2 : PyData.depth (encE n m e) ≤ 6 := by
      simp only [encE, dDG, dP2, PyData.depth, PyData.depthAll]
      omega
    refine ⟨by rw [List.map_cons, PyData.canLayAll0, e1, h1]; rfl, ?_⟩
    rw [List.map_cons, PyData.depthAll]
    omega
def dTerms (n m : Int) (A : Asc) : PyData := .list (A.map (encE n m))
theorem dTerms_lay (n m : Int) (A : Asc) : PyData.canLay0 (dTerms n m A) = true ∧ PyData.depth (dTerms n m A) ≤ 7 := by
  obtain ⟨h1, h2⟩ := lay_encE n m A
  refine ⟨by simp [dTerms, PyData.canLay0, h1], ?_⟩
  simp only [dTerms, PyData.depth]
  omega
theorem dTerms_shaped (n m : Int) (A : Asc) : SeqAt.shaped (dTerms n m A) = true := by
  obtain ⟨h1, h2⟩ := dTerms_lay n m A
  show (PyData.canLay0 (dTerms n m A) && decide (PyData.depth (dTerms n m A) ≤ 64)) = true
  rw [h1, decide_eq_true (by omega)]
  rfl
theorem smL_terms {n m : Int} {A : Asc} (h1 : ∀ e ∈ A, IsDg n m e.1) (h2 : ∀ e ∈ A, e.2.1.natAbs < 2 ^ 200 ∧ e.2.2.natAbs < 2 ^ 200) (h3 : A.length ≤ 5) : SmL 5 10000048 (dTerms n m A) := by
  have e := smL_list (ds := A.map (encE n m)) (n := 4) (k := 2000007) fun D hD => by
    obtain ⟨e, he, rfl⟩ := List.mem_map.mp hD
    refine smL_tuple (n := 3) (k := 1000000) (ds := [dDG n m e.1, dP2 e.2.1 e.2.2]) fun D hD => ?_
    rcases List.mem_cons.mp hD with rfl | hD
    · exact smL_dg (h1 e he)
    · rw [List.mem_singleton.mp hD]
      have s := smL_pair (h2 e he).1 (h2 e he).2
      exact ⟨s.lay, Nat.le_trans s.dep (by decide), s.sho, Nat.le_trans s.wgt (by decide)⟩
  rw [List.length_map] at e
  exact ⟨e.lay, e.dep, e.sho, Nat.le_trans e.wgt (by omega)⟩
/-! the hashes of the few diagrams stand apart -/
theorem hash_apart : ∀ n m : Nat, n < 3 → m < 3 → ((rgR (n + m)).map fun l => KD.hashK ((n : Int), (m : Int), blocksOf l)).Nodup := by
  have : ∀ n : Nat, n < 3 → ∀ m : Nat, m < 3 → ((rgR (n + m)).map fun l => KD.hashK ((n : Int), (m : Int), blocksOf l)).Nodup := by decide +kernel
  exact fun n m hn hm => this n hn m hm
theorem rows_few : ∀ k : Nat, k ≤ 4 → (rgR k).length ≤ 15 := by decide +kernel
theorem rows_some : ∀ n : Nat, n < 3 → ∀ m : Nat, m < 3 → 0 < (((rgR (n + m)).map blocksOf).filter (inFam "parts" (n : Int))).length := by decide +kernel
/-- all the diagrams of so many points -/
def allS (n m : Nat) : List BS := ((rgR (n + m)).map blocksOf).filter (inFam "parts" (n : Int))
theorem allS_gd {n m : Nat} {b : BS} (h : b ∈ allS n m) : GD (n + m) b := by
  obtain ⟨l, hl, rfl⟩ := List.mem_map.mp (List.mem_filter.mp h).1
  exact ⟨l, rfl, (rgR_ok hl).1⟩
theorem nodup_of_map {α β : Type} {f : α → β} : ∀ {l : List α}, (l.map f).Nodup → ∀ x ∈ l, ∀ y ∈ l, f x = f y → x = y
  | [], _, _, hx, _, _, _ => nomatch hx
  | a :: l, h, x, hx, y, hy, e => by
    rw [List.map_cons, List.nodup_cons] at h
    rcases List.mem_cons.mp hx with e1 | h1
    · rcases List.mem_cons.mp hy with e2 | h2
      · rw [e1, e2]
      · exact absurd (by rw [← e1, e]; exact List.mem_map_of_mem h2) h.1
    · rcases List.mem_cons.mp hy with e2 | h2
      · exact absurd (by rw [← e2, ← e]; exact List.mem_map_of_mem h1) h.1
      · exact nodup_of_map h.2 x h1 y h2 e
theorem keys_hash {n m : Nat} (hn : n < 3) (hm : m < 3) {A : Asc} (nd : (A.map (·.1)).Nodup) (h : ∀ e ∈ A, e.1 ∈ allS n m) : (A.map fun e => KD.hashK ((n : Int), (m : Int), e.1)).Nodup := by
  have inj : ∀ b ∈ allS n m, ∀ c ∈ allS n m, KD.hashK ((n : Int), (m : Int), b) = KD.hashK ((n : Int), (m : Int), c) → b = c := fun b hb c hc e => by
    obtain ⟨l, hl, rfl⟩ := List.mem_map.mp (List.mem_filter.mp hb).1
    obtain ⟨k, hk, rfl⟩ := List.mem_map.mp (List.mem_filter.mp hc).1
    rw [nodup_of_map (hash_apart n m hn hm) l hl k hk e]
  rw [show (A.map fun e => KD.hashK ((n : Int), (m : Int), e.1)) = (A.map (·.1)).map fun b => KD.hashK ((n : Int), (m : Int), b) by rw [List.map_map]; rfl]
  refine List.pairwise_map.mpr (List.Pairwise.imp_of_mem (fun {a b} ha hb hne e => ?_) nd)
  obtain ⟨x, hx, rfl⟩ := List.mem_map.mp ha
  obtain ⟨y, hy, rfl⟩ := List.mem_map.mp hb
  exact hne (inj _ (h x hx) _ (h y hy) e)
theorem sumA_in {S : List BS} {p : Int} {L : Asc} (h : ∀ e ∈ L, e.1 ∈ S) : ∀ e ∈ sumA p L, e.1 ∈ S := by
  induction L using rev_ind with
  | h0 => exact fun e he => nomatch he
  | h1 L e ih =>
    rw [sumA_snoc]
    intro x hx
    rcases putA_mem hx with hx | rfl
    · exact ih (fun x hx => h x (List.mem_append_left _ hx)) x hx
    · exact h e (List.mem_append_right _ (.head _))

theorem pe_zgetdP {X : Cx} {P : Program} {w : World} {o e f : Expr} {apos cpos : Pos} {td ty tx : TE} (hP : X.prog = P) (hw : X.w = w) (hu : X.A.units + 64 < cLine) (ho : PE X o td) (he : PE X e ty) (hf : PE X f tx) (m : M2 X o "get" apos e f cpos) : PE X (.Call (.Attribute o "get" apos) [e, f] [] cpos) (KD.tZGetD P w td ty tx) := by
  subst hP
  subst hw
  exact KD.pe_zgetd hu ho he hf m
theorem mod3 (n : Int) : ∃ k : Nat, n % 3 = (k : Int) ∧ k < 3 := by
  have := mod_in (p := 3) (n := n) (by decide)
  exact ⟨(n % 3).toNat, by omega, by omega⟩
def spLaw (K : PySem.W.Frag) : Sp := fun vs H Q _ => ∃ (a : Addr) (ns : List Int), vs = [.ref a] ∧ SqL K H a (ns.map V.int) ∧ ns.length ≤ 63 ∧ ∀ H', Q (.bl true) H'
section
variable {P : Program} {w : World} {K : PySem.W.Frag} {mg : Str → Option Value} {base : Heap}
/-- what is drawn: the world, the points, the diagrams, the terms -/
structure K32 (K : PySem.W.Frag) (P : Program) (w : World) (H : Hp) (x L Lp Dt : Addr) (p d : Int) (n m : Nat) (us ts : List V) (gs : Asc) : Prop where
  hx : SqT K H x [.int p, .int d]
  hL : H L = some (.lst us)
  hU : Paired (fun v bs => DGv H v n m bs) us (allS n m)
  hP : H Lp = some (.lst ts)
  hT : Paired (TermP K H) ts (gs.map (toT n m))
  hG : ∀ e ∈ gs, e.1 ∈ allS n m
  hN : NA p 4 6 gs
  hD : LawD K P w H Dt n m (sumA p gs)
theorem K32.same {H H' : Hp} {x L Lp Dt : Addr} {p d : Int} {n m : Nat} {us ts : List V} {gs : Asc} (s : Same H H') (k : K32 K P w H x L Lp Dt p d n m us ts gs) : K32 K P w H' x L Lp Dt p d n m us ts gs :=
  ⟨sqT_same s k.hx, s _ _ k.hL, Paired.mapP k.hU fun _ _ h => h.same s, s _ _ k.hP, Paired.mapP k.hT fun _ _ h => h.same s, k.hG, k.hN, k.hD.same s⟩
/-- another list is written over -/
theorem K32.kp {H H' : Hp} {x L Lp Dt : Addr} {p d : Int} {n m : Nat} {us ts : List V} {gs : Asc} (s : Kp H H') (e1 : H' L = some (.lst us)) (e2 : H' Lp = some (.lst ts)) (k : K32 K P w H x L Lp Dt p d n m us ts gs) : K32 K P w H' x L Lp Dt p d n m us ts gs :=
  ⟨SqT.kp s k.hx, e1, Paired.mapP k.hU fun _ _ h => DGv.kp s h, e2, Paired.mapP k.hT fun _ _ h => TermP.kp s h, k.hG, k.hN, LawD.kp s k.hD⟩
theorem eq_res {p d n m : Int} {A B : Asc} : (decide (p = p ∧ d = d) && (decide (n = n) && (decide (m = m) && sameA A B))) = sameA A B := by
  rw [decide_eq_true (⟨rfl, rfl⟩ : p = p ∧ d = d), decide_eq_true (rfl : n = n), decide_eq_true (rfl : m = m)]
  rfl
theorem ne_no {α : Type} [DecidableEq α] (x : α) : ¬ (!decide (x = x)) = true := by
  rw [decide_eq_true (rfl : x = x)]
  decide
theorem atI_last {α : Type} {xs : List α} {v : α} {k : Nat} (h : xs.length = k + 1) (e : xs[k]? = some v) : atI xs (-1) = some v := by
  unfold atI ixN
  rw [if_neg (by decide), if_pos (by omega), show (-1 + (xs.length : Int)).toNat = k by omega]
  exact e
theorem all_true (k : Nat) : (List.replicate k true).all id = true := by
  rw [List.all_eq_true]
  intro x hx
  rw [List.eq_of_mem_replicate hx]
  rfl
theorem dWnm_shaped (p d n m : Int) : SeqAt.shaped (.tuple [dP2 p d, .int n, .int m]) = true := by
  show (PyData.canLay0 _ && decide (PyData.depth _ ≤ 64)) = true
  rw [show PyData.canLay0 (.tuple [dP2 p d, .int n, .int m]) = true by simp [dP2, PyData.canLay0, PyData.canLayAll0], decide_eq_true (by simp only [dP2, PyData.depth, PyData.depthAll]; omega)]
  rfl
theorem dWnm_same (p d n m : Int) : PyData.eqv (.tuple [dP2 p d, .int n, .int m]) (.tuple [dP2 p d, .int n, .int m]) = true :=
  SeqAt.eqv_refl _ (by simp [dP2, PyData.canLay0, PyData.canLayAll0])
theorem sum_make {CS CW CN CD CB : Addr} {H : Hp} {Q : Hp → Prop} {x1 dx x Lq : Addr} {p d n m : Int} {tq : List V} {gq : Asc} {M D : Nat} (hW : isW p d = true) (hs : okSz n m) (hx : SqT K H x [.int p, .int d]) (hL : SqL K H Lq tq) (hT : Paired (TermP K H) tq (gq.map (toT n m))) (ga : GA (n + m).toNat gq) (na : NA p M D gq)
    (hD : 0 < D) (hD2 : D ≤ 30000) (hM : gq.length * M + M ≤ 1000000000000) (lt : tq.length ≤ 1000) (n1 : H x1 = none) (n2 : H dx = none) (ne : dx ≠ x1) (q : ∀ H', Same H H' → SumV K P w CS H' x1 x n m (norm (n + m).toNat (sumA p gq)) → Q H') :
    spSumInit K P w CS CW CN CD CB [.ref x1, .ref x, .int n, .int m, .ref Lq] (upd (upd H dx (.own x1)) x1 (.ins CS dx [])) (fun v H2 => v = .non ∧ Q H2) E0 := by
  have s2 := same_made (o1 := .own x1) (o2 := .ins CS dx []) n1 n2 ne
  refine ⟨x1, dx, x, p, d, n, m, Lq, tq, rfl, upd_same, sqT_same s2 hx, fun z => (nomatch hW.symm.trans z), fun _ => ⟨fun z => absurd hs z, fun _ => ⟨gq, [], M, D, sqL_same s2 hL, by rw [List.append_nil]; exact Paired.mapP hT fun _ _ h => h.same s2, ga, na, hD, hD2, hM, lt, (fun e r z => nomatch z), fun _ H' sb sv => ⟨rfl, ?_⟩⟩⟩⟩
  exact q H' (fun b o h => sb b o (fun z => by rw [z, n1] at h; exact nomatch h) (s2 _ _ h)) sv
theorem ok_law {f CS CW CN CD CB : Addr} {fd : FuncData} (F : Fun K "law" "law" s_law f fd) (z_int : mg "int" = none) (z_range : mg "range" = none) (z_repr : mg "repr" = none) (z_len : mg "len" = none) (z_min : mg "min" = none) (z_bool : mg "bool" = none) (z_list : mg "list" = none) (z_all : mg "all" = none)
    (S_Sum : SumC K mg CS) (nf_Sum : PySem.W.notFirst K CS (.ref CS) = true)
    {a_Sum_init : Addr} {fd_Sum_init : FuncData} (G_Sum_init : FnOk P w K mg base (L2N.CX P w) 7 a_Sum_init fd_Sum_init ["self", "world", "n", "m", "terms"] (spSumInit K P w CS CW CN CD CB)) (b_Sum_init : Binds K fd_Sum_init ["self", "world", "n", "m", "terms"] [])
    {a_Sum_terms : Addr} {fd_Sum_terms : FuncData} (G_Sum_terms : FnOk P w K mg base CX0 1 a_Sum_terms fd_Sum_terms ["self"] (spSumTerms K P w CS)) (b_Sum_terms : Binds K fd_Sum_terms ["self"] [])
    {a_Sum_at : Addr} {fd_Sum_at : FuncData} (G_Sum_at : FnOk P w K mg base (L2N.CX P w) 5 a_Sum_at fd_Sum_at ["self", "diagram"] (spSumAt K P w CS CD CB)) (b_Sum_at : Binds K fd_Sum_at ["self", "diagram"] [])
    {a_Sum_len : Addr} {fd_Sum_len : FuncData} (G_Sum_len : FnOk P w K mg base CX0 1 a_Sum_len fd_Sum_len ["self"] (spSumLen K P w CS)) (b_Sum_len : Binds K fd_Sum_len ["self"] [])
    {a_Sum_bool : Addr} {fd_Sum_bool : FuncData} (G_Sum_bool : FnOk P w K mg base CX0 1 a_Sum_bool fd_Sum_bool ["self"] (spSumBool K P w CS)) (b_Sum_bool : Binds K fd_Sum_bool ["self"] [])
    {a_Sum_eq : Addr} {fd_Sum_eq : FuncData} (G_Sum_eq : FnOk P w K mg base CX0 1 a_Sum_eq fd_Sum_eq ["self", "other"] (spSumEq K P w CS)) (b_Sum_eq : Binds K fd_Sum_eq ["self", "other"] [])
    (M_Sum : Mk K CS a_Sum_init) (h_Sum_terms : Meth K CS "terms" a_Sum_terms) (h_Sum_at : Meth K CS "at" a_Sum_at) (O_len : OwnM K CS a_Sum_len "__len__") (O_bool : OwnM K CS a_Sum_bool "__bool__") (O_eq : OwnM K CS a_Sum_eq "__eq__")
    {a_law_draws : Addr} {fd_law_draws : FuncData} (G_law_draws : FnOk P w K mg base CX0 2 a_law_draws fd_law_draws ["script"] (spDraws K)) (g_law_draws : mg "_law_draws" = some (.ref a_law_draws)) (k_law_draws : PySem.W.keepIn K (.ref a_law_draws) = true) (b_law_draws : Binds K fd_law_draws ["script"] [])
    {a_law_next : Addr} {fd_law_next : FuncData} (G_law_next : FnOk P w K mg base CX0 1 a_law_next fd_law_next ["draws"] spNext) (g_law_next : mg "_law_next" = some (.ref a_law_next)) (k_law_next : PySem.W.keepIn K (.ref a_law_next) = true) (b_law_next : Binds K fd_law_next ["draws"] [])
    {a_law_world : Addr} {fd_law_world : FuncData} (G_law_world : FnOk P w K mg base CX0 2 a_law_world fd_law_world ["draws"] spLawWorld) (g_law_world : mg "_law_world" = some (.ref a_law_world)) (k_law_world : PySem.W.keepIn K (.ref a_law_world) = true) (b_law_world : Binds K fd_law_world ["draws"] [])
    {a_law_all : Addr} {fd_law_all : FuncData} (G_law_all : FnOk P w K mg base CX0 2 a_law_all fd_law_all ["family", "n", "m"] spAll) (g_law_all : mg "_law_all" = some (.ref a_law_all)) (k_law_all : PySem.W.keepIn K (.ref a_law_all) = true) (b_law_all : Binds K fd_law_all ["family", "n", "m"] [])
    {a_law_value : Addr} {fd_law_value : FuncData} (G_law_value : FnOk P w K mg base CX0 2 a_law_value fd_law_value ["draws", "world"] (spLValue K)) (g_law_value : mg "_law_value" = some (.ref a_law_value)) (k_law_value : PySem.W.keepIn K (.ref a_law_value) = true) (b_law_value : Binds K fd_law_value ["draws", "world"] [])
    {a_law_added : Addr} {fd_law_added : FuncData} (G_law_added : FnOk P w K mg base CX0 3 a_law_added fd_law_added ["world", "terms", "diagram", "x"] (spLAdded K P w)) (g_law_added : mg "_law_added" = some (.ref a_law_added)) (k_law_added : PySem.W.keepIn K (.ref a_law_added) = true) (b_law_added : Binds K fd_law_added ["world", "terms", "diagram", "x"] [])
    {a_law_listed : Addr} {fd_law_listed : FuncData} (G_law_listed : FnOk P w K mg base CX0 2 a_law_listed fd_law_listed ["terms"] (spLListed K P w)) (g_law_listed : mg "_law_listed" = some (.ref a_law_listed)) (k_law_listed : PySem.W.keepIn K (.ref a_law_listed) = true) (b_law_listed : Binds K fd_law_listed ["terms"] [])
    {a_zero_sum : Addr} {fd_zero_sum : FuncData} (G_zero_sum : FnOk P w K mg base CX0 9 a_zero_sum fd_zero_sum ["world", "n", "m"] (spZeroSum K P w CS)) (g_zero_sum : mg "zero_sum" = some (.ref a_zero_sum)) (k_zero_sum : PySem.W.keepIn K (.ref a_zero_sum) = true) (b_zero_sum : Binds K fd_zero_sum ["world", "n", "m"] [])
    {a_law_refuses : Addr} {fd_law_refuses : FuncData} (G_law_refuses : FnOk P w K mg base CX0 11 a_law_refuses fd_law_refuses ["world", "n", "m", "pairs"] (spRefuses K)) (g_law_refuses : mg "_law_refuses" = some (.ref a_law_refuses)) (k_law_refuses : PySem.W.keepIn K (.ref a_law_refuses) = true) (b_law_refuses : Binds K fd_law_refuses ["world", "n", "m", "pairs"] []) :
    FnG P w K mg base 12 f fd ["script"] (spLaw K) := by
  refine F.okG sc_law (fun vs H Q E h => ?_) (fun cdv A outer s H vs Q E hgu hr h => ?_)
  · obtain ⟨a, ns, rfl, _⟩ := h
    rfl
  · obtain ⟨sc, ns, rfl, hS, hlen, q⟩ := h
    refine ⟨_, (pss_cons (ps_set (i := 1) sc_law.nd rfl (.inl rfl) (pe_call G_law_draws (hr.mono (by decide)) rfl g_law_draws k_law_draws b_law_draws .nil pass0 (pa_cons (pv 0) pa_nil)))
  (pss_cons (ps_expr (pe_bm0 PySem.F.plainAttrs_list PySem.F.slot_list_reverse PySem.F.type_list_reverse mt_reverse (pv 1)))
  (pss_cons (ps_set (i := 2) sc_law.nd rfl (.inl rfl) (pe_call G_law_world (hr.mono (by decide)) rfl g_law_world k_law_world b_law_world .nil pass0 (pa_cons (pv 1) pa_nil)))
  (pss_cons (ps_set (i := 3) sc_law.nd rfl (.inl rfl) (pe_op op_mod (pe_callTy call_int1 (by rfl) z_int boot_int (pa_cons (pe_call G_law_next (hr.mono (by decide)) rfl g_law_next k_law_next b_law_next .nil pass0 (pa_cons (pv 1) pa_nil)) pa_nil)) pe_int))
  (pss_cons (ps_set (i := 4) sc_law.nd rfl (.inl rfl) (pe_op op_mod (pe_callTy call_int1 (by rfl) z_int boot_int (pa_cons (pe_call G_law_next (hr.mono (by decide)) rfl g_law_next k_law_next b_law_next .nil pass0 (pa_cons (pv 1) pa_nil)) pa_nil)) pe_int))
  (pss_cons (ps_set (i := 5) sc_law.nd rfl (.inl rfl) (pe_call G_law_all (hr.mono (by decide)) rfl g_law_all k_law_all b_law_all .nil pass0 (pa_cons pe_str (pa_cons (pv 3) (pa_cons (pv 4) pa_nil)))))
  (pss_cons (ps_set (i := 6) sc_law.nd rfl (.inl rfl) (pe_lst pa_nil))
  (Evl.pss_cut (ps_set (i := 7) sc_law.nd rfl (.inr rfl) ((KD.pe_still KD.pe_nnew)))
  (Evl.pss_cut (ps_for PassesOwn.never rfl (pi_range1 rfl z_range (pa_cons (pe_op op_mod (pe_callTy call_int1 (by rfl) z_int boot_int (pa_cons (pe_call G_law_next (hr.mono (by decide)) rfl g_law_next k_law_next b_law_next .nil pass0 (pa_cons (pv 1) pa_nil)) pa_nil)) pe_int) pa_nil)) (pg_name (i := 8) sc_law.nd rfl (.inl rfl)) (pss_cons (ps_set (i := 9) sc_law.nd rfl (.inl rfl) (pe_ix ix_list (pv 5) (pe_op op_mod (pe_callTy call_int1 (by rfl) z_int boot_int (pa_cons (pe_call G_law_next (hr.mono (by decide)) rfl g_law_next k_law_next b_law_next .nil pass0 (pa_cons (pv 1) pa_nil)) pa_nil)) (pe_callB (call_min2 rfl) (by rfl) z_min boot_min (pa_cons (pe_callB call_len_seq (by rfl) z_len boot_len (pa_cons (pv 5) pa_nil)) (pa_cons (pe_op op_add pe_int (pe_op op_mul pe_int (pe_op op_fdiv (pv 8) pe_int))) pa_nil)))) (fun _ _ => rfl)))
  (pss_cons (ps_set (i := 10) sc_law.nd rfl (.inl rfl) (pe_call G_law_value (hr.mono (by decide)) rfl g_law_value k_law_value b_law_value .nil pass0 (pa_cons (pv 1) (pa_cons (pv 2) pa_nil))))
  (pss_cons (ps_expr (pe_bm PySem.F.plainAttrs_list PySem.F.slot_list_append PySem.F.type_list_append mt_append (pv 6) (pa_cons (pe_tup (pa_cons (pv 9) (pa_cons (pv 10) pa_nil))) pa_nil)))
  (pss_one (ps_set (i := 7) sc_law.nd rfl (.inr rfl) (pe_call G_law_added (hr.mono (by decide)) rfl g_law_added k_law_added b_law_added .nil pass0 (pa_cons (pv 2) (pa_cons (pv 7) (pa_cons (pv 9) (pa_cons (pv 10) pa_nil)))))))))))
  (Evl.pss_cut (ps_set (i := 11) sc_law.nd rfl (.inl rfl) (pe_callTy call_list_of (by rfl) z_list boot_list (pa_cons (pv 6) pa_nil)))
  (Evl.pss_cut (ps_set (i := 12) sc_law.nd rfl (.inr rfl) (pe_make M_Sum G_Sum_init (hr.mono (by decide)) rfl S_Sum.m b_Sum_init .nil passLN (pa_cons (pv 2) (pa_cons (pv 3) (pa_cons (pv 4) (pa_cons (pv 11) pa_nil))))))
  (Evl.pss_cut (ps_set (i := 13) sc_law.nd rfl (.inl rfl) (pe_call G_law_listed (hr.mono (by decide)) rfl g_law_listed k_law_listed b_law_listed .nil pass0 (pa_cons (pv 7) pa_nil)))
  (Evl.pss_cut (ps_set (i := 14) sc_law.nd rfl (.inl rfl) (pe_meth0 (pv 12) S_Sum.cl h_Sum_terms G_Sum_terms (hr.mono (by decide)) b_Sum_terms .nil pass0))
  (Evl.pss_cut (ps_if (L2.PW.pt (pw_or (pt_cmpR op_ne (pe_callB (cr_reprD hgu (room65 hr)) (by rfl) z_repr boot_repr (pa_cons (pv 14) pa_nil)) (pe_callB (cr_reprD hgu (room65 hr)) (by rfl) z_repr boot_repr (pa_cons (pv 13) pa_nil)) (nomark _)) (pw_or (pt_cmpR (op_neD (room64 hr)) (pv 11) (pv 6) (nomark _)) (pw_or (pt_cmpR op_ne (pe_callB (call_lenI O_len G_Sum_len (hr.mono (by decide)) b_Sum_len pass0) (by rfl) z_len boot_len (pa_cons (pv 12) pa_nil)) (pe_callB call_len_seq (by rfl) z_len boot_len (pa_cons (pv 13) pa_nil)) (nomark _)) (pw_or1 (pt_cmpR op_ne (pe_callB (cr_reprD hgu (room65 hr)) (by rfl) z_repr boot_repr (pa_cons (pe_callTy (call_boolI O_bool G_Sum_bool (hr.mono (by decide)) b_Sum_bool pass0) (by rfl) z_bool boot_bool (pa_cons (pv 12) pa_nil)) pa_nil)) (pe_callB (cr_reprD hgu (room65 hr)) (by rfl) z_repr boot_repr (pa_cons (pe_cmpR op_gt (pe_callB call_len_seq (by rfl) z_len boot_len (pa_cons (pv 13) pa_nil)) pe_int (nomark _)) pa_nil)) (nomark _))))))) (pss_one (ps_ret pe_bl)) pss_nil)
  (Evl.pss_cut (ps_expr (pe_bm PySem.F.plainAttrs_list PySem.F.slot_list_append PySem.F.type_list_append mt_append (pv 14) (pa_cons (pe_tup (pa_cons pe_str (pa_cons pe_int pa_nil))) pa_nil)))
  (Evl.pss_cut (ps_if (L2.PW.pt (pw_or (pt_cmpR op_ne (pe_callB (cr_reprD hgu (room65 hr)) (by rfl) z_repr boot_repr (pa_cons (pe_meth0 (pv 12) S_Sum.cl h_Sum_terms G_Sum_terms (hr.mono (by decide)) b_Sum_terms .nil pass0) pa_nil)) (pe_callB (cr_reprD hgu (room65 hr)) (by rfl) z_repr boot_repr (pa_cons (pv 13) pa_nil)) (nomark _)) (pw_or1 (pt_cmpR (op_neD (room64 hr)) (pe_tup (pa_cons (pe_fld (pv 12) rfl) (pa_cons (pe_fld (pv 12) rfl) (pa_cons (pe_fld (pv 12) rfl) pa_nil)))) (pe_tup (pa_cons (pv 2) (pa_cons (pv 3) (pa_cons (pv 4) pa_nil)))) (nomark _))))) (pss_one (ps_ret pe_bl)) pss_nil)
  (Evl.pss_cut (ps_if (pt_not (pt_val (pe_callB (cr_all rfl) (by rfl) z_all boot_all (pa_cons (pe_lc (own := [("diagram", 9)]) rfl sc_law.nd (pi_list (pv 5)) (blkOk_by (N := ["script", "draws", "world", "n", "m", "some", "pairs", "terms", "j", "diagram", "x", "passed", "one", "due", "told", "again", "more"]) (sc := defScope s_law) (by first | decide +kernel | rfl)) (fun _ _ _ _ _ => (pg_name (i := 9) sc_law.nd rfl (.inl rfl))) (fun _ _ _ _ _ => pts_nil) (fun _ _ _ _ _ => (pe_cmpR (op_eqDK (K := K) rfl (room64 hr)) (pe_meth (pv 12) S_Sum.cl h_Sum_at G_Sum_at (hr.mono (by decide)) b_Sum_at .nil passLN (pa_cons (pv 9) pa_nil)) (pe_zgetdP (P := P) (w := w) rfl rfl (room64 hr) (pv 7) (pv 9) (pe_tup (pa_cons pe_int (pa_cons pe_int pa_nil))) ⟨by rfl, by rfl, by rfl, by rfl⟩) (nomark _)))) pa_nil)))) (pss_one (ps_ret pe_bl)) pss_nil)
  (Evl.pss_cut (ps_set (i := 15) sc_law.nd rfl (.inl rfl) (pe_make M_Sum G_Sum_init (hr.mono (by decide)) rfl S_Sum.m b_Sum_init .nil passLN (pa_cons (pv 2) (pa_cons (pv 3) (pa_cons (pv 4) (pa_cons (pe_revL (pv 6)) pa_nil))))))
  (Evl.pss_cut (ps_set (i := 16) sc_law.nd rfl (.inl rfl) (pe_make M_Sum G_Sum_init (hr.mono (by decide)) rfl S_Sum.m b_Sum_init .nil passLN (pa_cons (pv 2) (pa_cons (pv 3) (pa_cons (pv 4) (pa_cons (pe_op op_cat (pv 6) (pe_lst (pa_cons (pe_tup (pa_cons (pe_ix ix_list (pv 5) (pe_un un_neg pe_int) (fun _ _ => rfl)) (pa_cons (pe_tup (pa_cons pe_int (pa_cons pe_int pa_nil))) pa_nil))) pa_nil))) pa_nil))))))
  (Evl.pss_cut (ps_if (L2.PW.pt (pw_or (pt_not (pt_cmpR (op_eqI nf_Sum O_eq G_Sum_eq (hr.mono (by decide)) b_Sum_eq pass0) (pv 12) (pv 15) (nomark _))) (pw_or (pt_cmpR (op_eqI nf_Sum O_eq G_Sum_eq (hr.mono (by decide)) b_Sum_eq pass0) (pv 12) (pv 16) (nomark _)) (pw_or1 (pt_cmpR op_ne (pe_callB (cr_reprD hgu (room65 hr)) (by rfl) z_repr boot_repr (pa_cons (pe_cmpR (op_eqI nf_Sum O_eq G_Sum_eq (hr.mono (by decide)) b_Sum_eq pass0) (pv 12) (pe_call G_zero_sum (hr.mono (by decide)) rfl g_zero_sum k_zero_sum b_zero_sum .nil pass0 (pa_cons (pv 2) (pa_cons (pv 3) (pa_cons (pv 4) pa_nil)))) (nomark _)) pa_nil)) (pe_callB (cr_reprD hgu (room65 hr)) (by rfl) z_repr boot_repr (pa_cons (pe_cmpR op_eq (pe_callB call_len_seq (by rfl) z_len boot_len (pa_cons (pv 13) pa_nil)) pe_int (nomark _)) pa_nil)) (nomark _)))))) (pss_one (ps_ret pe_bl)) pss_nil)
  (pss_one (ps_ret (pe_and (pe_call G_law_refuses (hr.mono (by decide)) rfl g_law_refuses k_law_refuses b_law_refuses .nil pass0 (pa_cons (pv 2) (pa_cons (pv 3) (pa_cons (pv 4) (pa_cons (pv 6) pa_nil))))) (pe_one (pe_notT (pe_meth0 (pe_call G_zero_sum (hr.mono (by decide)) rfl g_zero_sum k_zero_sum b_zero_sum .nil pass0 (pa_cons (pv 2) (pa_cons (pv 3) (pa_cons (pv 4) pa_nil)))) S_Sum.cl h_Sum_terms G_Sum_terms (hr.mono (by decide)) b_Sum_terms .nil pass0)))))))))))))))))))))))))), ?_⟩
    have szl : 20000 ≤ sizeLine := by decide
    refine ⟨_, rfl, sc, ns, rfl, hS, hlen, fun H1 r ds s1 nr hL => ?_⟩
    refine ⟨_, rfl, .inl ⟨rfl, _, .inl (.inl hL)⟩, r, _, rfl, rfl, hL, ?_⟩
    have hr1 : upd H1 r (.lst (ds.map V.int).reverse) r = some (.lst (ds.reverse.map V.int)) := by rw [upd_same, List.map_reverse]
    revert hr1
    generalize upd H1 r (.lst (ds.map V.int).reverse) = H2
    generalize ds.reverse = ds
    intro hr1
    clear hL s1 nr hS
    refine ⟨_, rfl, r, ds, rfl, hr1, fun p d ds1 x H3 sb3 hr3 nx hx3 hW hd6 => ?_⟩
    obtain ⟨hp, _⟩ := isW_cases hW
    refine ⟨_, rfl, r, ds1, rfl, hr3, fun n0 ds2 => .inl ⟨n0, rfl, n0, 3, rfl, rfl, (show (0 : Int) < 3 by decide), ?_⟩⟩
    refine ⟨_, rfl, r, ds2, rfl, upd_same, fun m0 ds3 => .inl ⟨m0, rfl, m0, 3, rfl, rfl, (show (0 : Int) < 3 by decide), ?_⟩⟩
    obtain ⟨n, en, hn⟩ := mod3 n0
    obtain ⟨m, em, hm⟩ := mod3 m0
    show gName 4 (V.int (m0 % 3)) ((((L2.start _ _).set 1 _).set 2 _).set 3 (some (V.int (n0 % 3)))) _ _
    rw [en, em]
    have hx5 : (upd (upd H3 r (.lst (ds2.map V.int))) r (.lst (ds3.map V.int))) x = some (.tup [.int p, .int d]) := by
      have rx : x ≠ r := fun z => by rw [z, hr3] at hx3; exact nomatch hx3
      rw [upd_ne rx, upd_ne rx]
      exact hx3
    have hr5 : (upd (upd H3 r (.lst (ds2.map V.int))) r (.lst (ds3.map V.int))) r = some (.lst (ds3.map V.int)) := upd_same
    revert hx5 hr5
    generalize upd (upd H3 r (.lst (ds2.map V.int))) r (.lst (ds3.map V.int)) = H5
    intro hx5 hr5
    clear hr1 sb3 hr3 nx hx3
    have sz : siz (n : Int) (m : Int) = true := siz_iff.mpr ⟨by omega, by omega, by omega, by omega, by omega⟩
    refine ⟨_, rfl, _, rfl, "parts", n, m, rfl, by decide +kernel, sz, fun k hk => Nat.le_trans (rows_few k (by omega)) (by decide), fun L us H6 s6 hL6 hU6 => ?_⟩
    have hU6 : Paired (fun v bs => DGv H6 v n m bs) us (allS n m) := hU6
    have lU := hU6.length
    have l0 : 0 < (allS n m).length := rows_some n hn m hm
    have l15 : (allS n m).length ≤ 15 := by
      have h1 := List.length_filter_le (inFam "parts" (n : Int)) ((rgR (n + m)).map blocksOf)
      have h2 := rows_few (n + m) (by omega)
      rw [List.length_map] at h1
      exact Nat.le_trans h1 h2
    have rL : r ≠ L := fun z => by
      have e := (s6 _ _ hr5).symm.trans (z ▸ hL6)
      have e := HO.lst.inj (Option.some.inj e)
      cases us with
      | nil => rw [List.length_nil] at lU; omega
      | cons u us =>
        obtain ⟨b, _, h⟩ := LiI.paired_get hU6 (show (u :: us)[0]? = some u from rfl)
        obtain ⟨q, rfl, _⟩ := isK_dg h
        cases ds3 with
        | nil => exact nomatch e
        | cons a ds3 => exact nomatch (List.cons.inj e).1
    refine ⟨by show 0 ≤ sizeLine; decide, fun Lp nLp => ?_⟩
    have w7 := same_upd (o := .lst []) nLp
    refine ⟨fun σ H' => ∃ Dt, σ = [some (.ref sc), some (.ref r), some (.ref x), some (.int (n : Int)), some (.int (m : Int)), some (.ref L), some (.ref Lp), some (.ref Dt), none, none, none, none, none, none, none, none, none] ∧ H' r = some (.lst (ds3.map V.int)) ∧ K32 K P w H' x L Lp Dt p d n m us [] [], ?_, ?_⟩
    · refine fun D nD => ⟨D, [], rfl, upd_same, fun o => ⟨D, rfl, ?_⟩⟩
      have s9 : Same H6 (upd (upd (upd H6 Lp (.lst [])) D (KD.NDict P w D [])) D (.frz o (KD.NDict P w D []))) := fun b u e => by
        have h1 := w7 _ _ e
        have bD : b ≠ D := ne_of_none h1 nD
        rw [upd_ne bD, upd_ne bD]
        exact h1
      have hLp : (upd (upd (upd H6 Lp (.lst [])) D (KD.NDict P w D [])) D (.frz o (KD.NDict P w D []))) Lp = some (.lst []) := by
        have h1 : upd H6 Lp (.lst []) Lp = some (.lst []) := upd_same
        have bD : Lp ≠ D := ne_of_none h1 nD
        rw [upd_ne bD, upd_ne bD]
        exact h1
      exact ⟨s9 _ _ (s6 _ _ hr5), ⟨.inl (.inl (s9 _ _ (s6 _ _ hx5))), s9 _ _ hL6, Paired.mapP hU6 fun _ _ h => h.same s9, hLp, .nil, (fun e he => nomatch he), (fun e he => nomatch he), [], ⟨o, upd_same⟩, keys_nil, entA_nil⟩⟩
    rintro σ H7 ⟨Dt, rfl, hr7, k7⟩
    have rLp : r ≠ Lp := ne_of_none (s6 _ _ hr5) nLp
    have LLp : L ≠ Lp := ne_of_none hL6 nLp
    have rx : r ≠ x := fun z => by rw [z, hx5] at hr5; exact nomatch hr5
    clear hx5 hr5 s6 hL6 hU6 nLp w7
    refine ⟨fun σ H' => ∃ Dt v8 v9 v10 ts gs, σ = [some (.ref sc), some (.ref r), some (.ref x), some (.int (n : Int)), some (.int (m : Int)), some (.ref L), some (.ref Lp), some (.ref Dt), v8, v9, v10, none, none, none, none, none, none] ∧ K32 K P w H' x L Lp Dt p d n m us ts gs ∧ gs.length ≤ 5, ?_, ?_⟩
    · refine ⟨_, rfl, r, ds3, rfl, hr7, fun k0 ds4 => .inl ⟨k0, rfl, k0, 6, rfl, rfl, (show (0 : Int) < 6 by decide), ?_⟩⟩
      have m6 := mod_in (p := 6) (n := k0) (by decide)
      have k8 := k7.kp (kp_but hr7 (SameBut.upd (o := .lst (ds4.map V.int)))) (by rw [upd_ne (Ne.symm rL)]; exact k7.hL) (by rw [upd_ne (Ne.symm rLp)]; exact k7.hP)
      refine ⟨_, rfl, (by show _ ≤ k0 % 6; omega), (by show k0 % 6 < _; omega), for_range (lo := 0) (n := (k0 % 6).toNat) (fun j σ H' => ∃ Dt v8 v9 v10 ts gs ds, σ = [some (.ref sc), some (.ref r), some (.ref x), some (.int (n : Int)), some (.int (m : Int)), some (.ref L), some (.ref Lp), some (.ref Dt), v8, v9, v10, none, none, none, none, none, none] ∧ H' r = some (.lst (ds.map V.int)) ∧ K32 K P w H' x L Lp Dt p d n m us ts gs ∧ gs.length = j)
        ⟨Dt, none, none, none, [], [], ds4, rfl, upd_same, k8, rfl⟩ (fun j σ H8 hj hP => ?_) (fun σ H8 hP => ?_)⟩
      · obtain ⟨Dt, v8, v9, v10, ts, gs, ds, rfl, hr8, k8, lg⟩ := hP
        refine ⟨_, rfl, _, rfl, r, ds, rfl, hr8, fun k1 ds1 => .inl ⟨k1, rfl, ?_⟩⟩
        have k9 := k8.kp (kp_but hr8 (SameBut.upd (o := .lst (ds1.map V.int)))) (by rw [upd_ne (Ne.symm rL)]; exact k8.hL) (by rw [upd_ne (Ne.symm rLp)]; exact k8.hP)
        have hr9 : upd H8 r (.lst (ds1.map V.int)) r = some (.lst (ds1.map V.int)) := upd_same
        clear k8 hr8
        revert k9 hr9
        generalize upd H8 r (.lst (ds1.map V.int)) = H9
        intro k9 hr9
        have hj5 : j < 5 := by omega
        refine ⟨_, rfl, L, us, rfl, .inl (.inl (.inl k9.hL)), _, rfl, 0 + (j : Int), 3, rfl, rfl, ⟨by omega, by omega⟩, 11, (0 + (j : Int)) / 3, rfl, rfl, .inl ⟨by omega, by omega⟩, 4, 11 * ((0 + (j : Int)) / 3), rfl, rfl, _, _, rfl, ?_⟩
        rw [lU]
        obtain ⟨c, ec, hc⟩ : ∃ c : Nat, (if (4 + 11 * ((0 + (j : Int)) / 3)) < (((allS n m).length : Nat) : Int) then (4 + 11 * ((0 + (j : Int)) / 3)) else (((allS n m).length : Nat) : Int)) = (c : Int) ∧ 0 < c ∧ c ≤ (allS n m).length := by
          split
          · exact ⟨(4 + 11 * ((0 + (j : Int)) / 3)).toNat, by omega, by omega, by omega⟩
          · exact ⟨(allS n m).length, rfl, l0, Nat.le_refl _⟩
        rw [ec]
        have mc := mod_in (p := (c : Int)) (n := k1) (by omega)
        obtain ⟨t, et⟩ : ∃ t : Nat, k1 % (c : Int) = (t : Int) := ⟨(k1 % (c : Int)).toNat, by omega⟩
        have tl : t < us.length := by omega
        obtain ⟨b, eb, db⟩ := LiI.paired_get k9.hU (List.getElem?_eq_getElem tl)
        have mb : b ∈ allS n m := List.mem_of_getElem? eb
        refine ⟨k1, c, rfl, rfl, (by omega), L, us, (t : Int), us[t], rfl, congrArg V.int et, .inl (.inl k9.hL), atI_nat (List.getElem?_eq_getElem tl), ?_⟩
        refine ⟨_, rfl, _, rfl, r, x, ds1, p, d, rfl, hr9, k9.hx, rx, hp, fun y ds2 ty H10 sb10 hr10 nty hty nby => ?_⟩
        have k10 := k9.kp (kp_but hr9 sb10) (sb10 _ _ (Ne.symm rL) k9.hL) (sb10 _ _ (Ne.symm rLp) k9.hP)
        have db10 := DGv.kp (kp_but hr9 sb10) db
        clear k9 hr9 sb10 nty db
        refine ⟨_, rfl, .inl ⟨rfl, _, .inl (.inl k10.hP)⟩, _, rfl, _, rfl, (by show 2 ≤ sizeLine; decide), fun q nq => ?_⟩
        have w11 := same_upd (o := .tup [us[t], .ref ty]) nq
        have k11 := k10.same w11
        have hr11 := w11 _ _ hr10
        have hty11 := w11 _ _ hty
        have db11 := db10.same w11
        have hq11 : upd H10 q (.tup [us[t], .ref ty]) q = some (.tup [us[t], .ref ty]) := upd_same
        revert k11 hr11 hty11 db11 hq11
        generalize upd H10 q (.tup [us[t], .ref ty]) = H11
        intro k11 hr11 hty11 db11 hq11
        clear k10 hr10 hty db10 nq w11
        have lT := k11.hT.length
        rw [List.length_map] at lT
        refine ⟨Lp, ts, .ref q, rfl, rfl, k11.hP, by omega, ?_⟩
        have kp12 : Kp H11 (upd H11 Lp (.lst (ts ++ [.ref q]))) := kp_but k11.hP SameBut.upd
        have hr12 : upd H11 Lp (.lst (ts ++ [.ref q])) r = some (.lst (ds2.map V.int)) := by rw [upd_ne rLp]; exact hr11
        have hL12 : upd H11 Lp (.lst (ts ++ [.ref q])) L = some (.lst us) := by rw [upd_ne LLp]; exact k11.hL
        have hP12 : upd H11 Lp (.lst (ts ++ [.ref q])) Lp = some (.lst (ts ++ [.ref q])) := upd_same
        revert kp12 hr12 hL12 hP12
        generalize upd H11 Lp (.lst (ts ++ [.ref q])) = H12
        intro kp12 hr12 hL12 hP12
        have hx12 := SqT.kp kp12 k11.hx
        have hD12 := LawD.kp kp12 k11.hD
        have db12 := DGv.kp kp12 db11
        have hty12 := kp12.1 _ _ hty11
        have hq12 := kp12.1 _ _ hq11
        have hU12 : Paired (fun v bs => DGv H12 v n m bs) us (allS n m) := Paired.mapP k11.hU fun _ _ h => DGv.kp kp12 h
        have hT12 : Paired (TermP K H12) ts (gs.map (toT n m)) := Paired.mapP k11.hT fun _ _ h => TermP.kp kp12 h
        have ls := sumA_len p gs
        refine ⟨_, rfl, _, rfl, _, rfl, _, rfl, x, Dt, ty, us[t], p, d, n, m, sumA p gs, b, y, gs.length * 4, 4, 6, rfl, hx12, hD12, db12, .inl (.inl hty12), hp, by decide, by decide, by omega, by decide, sumA_na hp (by decide) k11.hN, nby, keys_hash hn hm (sumA_nodup p gs) (sumA_in k11.hG), by omega, fun D' H13 s13 nD' ld => ?_⟩
        refine ⟨D', _, _, _, ts ++ [.ref q], gs ++ [(b, y)], ds2, rfl, s13 _ _ hr12, ⟨sqT_same s13 hx12, s13 _ _ hL12, Paired.mapP hU12 fun _ _ h => h.same s13, s13 _ _ hP12, ?_, fun e he => ?_, fun e he => ?_, ?_⟩, by rw [List.length_append]; show gs.length + 1 = j + 1; omega⟩
        · rw [List.map_append]
          exact paired_app (Paired.mapP hT12 fun _ _ h => h.same s13) (.cons ⟨q, us[t], ty, rfl, .inl (.inl (s13 _ _ hq12)), db12.same s13, .inl (.inl (s13 _ _ hty12))⟩ .nil)
        · rcases List.mem_append.mp he with he | he
          · exact k11.hG e he
          · rw [List.mem_singleton.mp he]
            exact mb
        · rcases List.mem_append.mp he with he | he
          · exact k11.hN e he
          · rw [List.mem_singleton.mp he]
            exact nby
        · rw [sumA_snoc]
          exact ld
      · obtain ⟨Dt, v8, v9, v10, ts, gs, ds, rfl, hr8, k8, lg⟩ := hP
        exact ⟨Dt, v8, v9, v10, ts, gs, rfl, k8, by omega⟩
    clear k7 hr7
    rintro σ H9 ⟨Dt, v8, v9, v10, ts, gs, rfl, k9, lg⟩
    have hs : okSz (n : Int) (m : Int) := by unfold okSz; omega
    have eN : ((n : Int) + (m : Int)).toNat = n + m := by omega
    have ga : GA ((n : Int) + (m : Int)).toNat gs := fun e he => by
      rw [eN]
      exact allS_gd (k9.hG e he)
    have lT := k9.hT.length
    rw [List.length_map] at lT
    refine ⟨fun σ H' => ∃ lp, σ = [some (.ref sc), some (.ref r), some (.ref x), some (.int (n : Int)), some (.int (m : Int)), some (.ref L), some (.ref Lp), some (.ref Dt), v8, v9, v10, some (.ref lp), none, none, none, none, none] ∧ K32 K P w H' x L Lp Dt p d n m us ts gs ∧ H' lp = some (.lst ts), ?_, ?_⟩
    · refine ⟨_, rfl, Lp, ts, rfl, .inl (.inl (.inl k9.hP)), fun l nl => ?_⟩
      exact ⟨l, rfl, k9.same (same_upd nl), upd_same⟩
    clear k9
    rintro σ H10 ⟨lp, rfl, k10, hlp⟩
    refine ⟨fun σ H' => ∃ a1, σ = [some (.ref sc), some (.ref r), some (.ref x), some (.int (n : Int)), some (.int (m : Int)), some (.ref L), some (.ref Lp), some (.ref Dt), v8, v9, v10, some (.ref lp), some (.ref a1), none, none, none, none] ∧ Same H10 H' ∧ SumV K P w CS H' a1 x n m (norm ((n : Int) + (m : Int)).toNat (sumA p gs)), ?_, ?_⟩
    · refine ⟨_, rfl, _, rfl, _, rfl, _, rfl, fun x1 dx n1 n2 ne => ?_⟩
      refine sum_make hW hs k10.hx (.inl (.inl hlp)) k10.hT ga k10.hN (by decide) (by decide) (by omega) (by omega) n1 n2 ne (fun H' s' sv => ?_)
      exact ⟨x1, rfl, s', sv⟩
    rintro σ H11 ⟨a1, rfl, s11, sv⟩
    have k11 := k10.same s11
    have hlp := s11 _ _ hlp
    clear k10 s11
    have ga' := sumA_ga (p := p) ga
    have nd' := sumA_nodup p gs
    have len' := sumA_len p gs
    refine ⟨fun σ H' => ∃ ld ud, σ = [some (.ref sc), some (.ref r), some (.ref x), some (.int (n : Int)), some (.int (m : Int)), some (.ref L), some (.ref Lp), some (.ref Dt), v8, v9, v10, some (.ref lp), some (.ref a1), some (.ref ld), none, none, none] ∧ Same H11 H' ∧ H' ld = some (.lst ud) ∧ Paired (fun v e => TermP K H' v (toT n m e)) ud (norm ((n : Int) + (m : Int)).toNat (sumA p gs)), ?_, ?_⟩
    · exact ⟨_, rfl, Dt, n, m, sumA p gs, rfl, k11.hD, hs, ga', nd', by omega, fun L1 us1 H' s' nL hL' pr => ⟨L1, us1, rfl, s', hL', pr⟩⟩
    rintro σ H12 ⟨ld, ud, rfl, s12, hld, pd⟩
    have kB := k11.same s12
    have hlp := s12 _ _ hlp
    have sv := sv.same s12
    clear k11 s12
    have nA := sumA_na hp (show 0 < 6 by decide) kB.hN
    have dgA : ∀ e ∈ norm ((n : Int) + (m : Int)).toNat (sumA p gs), IsDg n m e.1 := fun e he => by
      obtain ⟨l, e1, hl⟩ := ga' e (mem_norm.mp he).1
      rw [e1]
      exact isDg_blocks sz (by omega)
    have smA : SmL 5 10000048 (dTerms n m (norm ((n : Int) + (m : Int)).toNat (sumA p gs))) := by
      refine smL_terms dgA (fun e he => ?_) ?_
      · obtain ⟨b1, b2, b3⟩ := nb_bounds hp (by decide) (by decide) (show gs.length * 4 ≤ _ by omega) (nA e (mem_norm.mp he).1)
        have big : (2 : Nat) ^ 62 ≤ 2 ^ 200 := Nat.pow_le_pow_right (by decide) (by decide)
        have big2 : 30000 < (2 : Nat) ^ 200 := by decide
        exact ⟨by omega, by omega⟩
      · have h1 := (norm_perm ((n : Int) + (m : Int)).toNat (sumA p gs)).length_eq
        have h2 := List.length_filter_le nzA (sumA p gs)
        omega
    have lA : (norm ((n : Int) + (m : Int)).toNat (sumA p gs)).length ≤ 5 := by
      have h1 := (norm_perm ((n : Int) + (m : Int)).toNat (sumA p gs)).length_eq
      have h2 := List.length_filter_le nzA (sumA p gs)
      omega
    have ndA := norm_nd (N := ((n : Int) + (m : Int)).toNat) nd'
    have cnA : Can p (sumA p gs) := nA.can
    have numE := fun b => numA_norm (N := ((n : Int) + (m : Int)).toNat) nd' cnA b
    refine ⟨fun σ H' => ∃ lt ut, σ = [some (.ref sc), some (.ref r), some (.ref x), some (.int (n : Int)), some (.int (m : Int)), some (.ref L), some (.ref Lp), some (.ref Dt), v8, v9, v10, some (.ref lp), some (.ref a1), some (.ref ld), some (.ref lt), none, none] ∧ Same H12 H' ∧ H12 lt = none ∧ H' lt = some (.lst ut) ∧ Paired (fun v e => TermP K H' v (toT n m e)) ut (norm ((n : Int) + (m : Int)).toNat (sumA p gs)), ?_, ?_⟩
    · obtain ⟨dx1, Dn, kvz, ha1, _⟩ := id sv
      exact ⟨_, rfl, a1, dx1, _, rfl, ha1, by rfl, a1, x, n, m, _, rfl, sv, fun L1 us1 H' s' nL hL' pr => ⟨L1, us1, rfl, s', nL, hL', pr⟩⟩
    rintro σ H13 ⟨lt, ut, rfl, s13, nlt, hlt, pt⟩
    refine ⟨fun σ H' => σ = [some (.ref sc), some (.ref r), some (.ref x), some (.int (n : Int)), some (.int (m : Int)), some (.ref L), some (.ref Lp), some (.ref Dt), v8, v9, v10, some (.ref lp), some (.ref a1), some (.ref ld), some (.ref lt), none, none] ∧ H' = H13, ?_, ?_⟩
    · have sv3 := sv.same s13
      have k13 := kB.same s13
      have hlp3 := s13 _ _ hlp
      have hld3 := s13 _ _ hld
      have pd3 := Paired.mapP pd fun _ _ h => TermP.same s13 h
      obtain ⟨dx1, Dn, kvz, ha1, _⟩ := id sv3
      have dT1 : Dp K H13 (.ref lt) (dTerms n m (norm ((n : Int) + (m : Int)).toNat (sumA p gs))) := .lst (.inl (.inl hlt)) (terms_dp pt)
      have dT2 : Dp K H13 (.ref ld) (dTerms n m (norm ((n : Int) + (m : Int)).toNat (sumA p gs))) := .lst (.inl (.inl hld3)) (terms_dp pd3)
      have dP1 : Dp K H13 (.ref lp) (dTerms n m gs) := .lst (.inl (.inl hlp3)) (terms_dp (terms_pair k13.hT))
      have dP2' : Dp K H13 (.ref Lp) (dTerms n m gs) := .lst (.inl (.inl k13.hP)) (terms_dp (terms_pair k13.hT))
      have ldl := pd3.length
      refine ⟨_, rfl, .ref lt, _, rfl, dT1, smA.shaped (by decide), smA.sho, smA.wide (by decide), _, rfl, .ref ld, _, rfl, dT2, smA.shaped (by decide), smA.sho, smA.wide (by decide), rfl, _, rfl, if_neg_of (ne_no _) ?_⟩
      refine ⟨_, rfl, _, rfl, _, _, dP1, dP2', dTerms_shaped _ _ _, dTerms_shaped _ _ _, ?_⟩
      rw [SeqAt.eqv_refl _ (dTerms_lay n m gs).1]
      refine ⟨_, rfl, if_neg_of (by decide) ?_⟩
      refine ⟨_, rfl, a1, dx1, _, rfl, ha1, a1, x, n, m, _, rfl, sv3, _, rfl, by omega, _, rfl, ld, ud, rfl, .inl (.inl (.inl hld3)), rfl, _, rfl, ?_⟩
      rw [ldl]
      refine if_neg_of (ne_no _) ?_
      have sb := smL_bool (decide ((norm ((n : Int) + (m : Int)).toNat (sumA p gs)).length ≠ 0))
      refine ⟨_, rfl, a1, dx1, _, rfl, ha1, a1, x, n, m, _, rfl, sv3, _, rfl, .bl _, .bool _, rfl, .bl _, sb.shaped (by decide), sb.sho, sb.wide (by decide), ?_⟩
      refine ⟨_, rfl, ld, ud, rfl, .inl (.inl (.inl hld3)), _, _, rfl, rfl, ?_⟩
      have eb : decide ((0 : Int) < ((ud.length : Nat) : Int)) = decide ((norm ((n : Int) + (m : Int)).toNat (sumA p gs)).length ≠ 0) := by
        rw [ldl]
        exact decide_eq_decide.mpr ⟨fun h => by omega, fun h => by omega⟩
      refine ⟨_, .bool (decide ((norm ((n : Int) + (m : Int)).toNat (sumA p gs)).length ≠ 0)), rfl, ?_, sb.shaped (by decide), sb.sho, sb.wide (by decide), rfl, _, rfl, if_neg_of (ne_no _) ⟨rfl, rfl⟩⟩
      show Dp K H13 (.bl (decide ((0 : Int) < ((ud.length : Nat) : Int)))) _
      rw [eb]
      exact .bl _
    rintro σ H13' ⟨rfl, rfl⟩
    refine ⟨fun σ H' => σ = [some (.ref sc), some (.ref r), some (.ref x), some (.int (n : Int)), some (.int (m : Int)), some (.ref L), some (.ref Lp), some (.ref Dt), v8, v9, v10, some (.ref lp), some (.ref a1), some (.ref ld), some (.ref lt), none, none] ∧ Same H12 H', ?_, ?_⟩
    · refine ⟨_, rfl, .inl ⟨rfl, _, .inl (.inl hlt)⟩, (by show 2 ≤ sizeLine; decide), fun q nq => ⟨lt, ut, .ref q, rfl, rfl, same_upd nq _ _ hlt, ?_, rfl, Same.mut (Same.trans s13 (same_upd nq)) nlt⟩⟩
      have := pt.length
      omega
    rintro σ H14 ⟨rfl, s14⟩
    refine ⟨fun σ H' => σ = [some (.ref sc), some (.ref r), some (.ref x), some (.int (n : Int)), some (.int (m : Int)), some (.ref L), some (.ref Lp), some (.ref Dt), v8, v9, v10, some (.ref lp), some (.ref a1), some (.ref ld), some (.ref lt), none, none] ∧ Same H12 H', ?_, ?_⟩
    · have sv4 := sv.same s14
      obtain ⟨dx1, Dn, kvz, ha1, _⟩ := id sv4
      refine ⟨_, rfl, a1, dx1, _, rfl, ha1, by rfl, a1, x, n, m, _, rfl, sv4, fun L1 us1 H' s' nL hL' pr => ?_⟩
      have s15 := Same.trans s14 s'
      have dT1 : Dp K H' (.ref L1) (dTerms n m (norm ((n : Int) + (m : Int)).toNat (sumA p gs))) := .lst (.inl (.inl hL')) (terms_dp pr)
      have dT2 : Dp K H' (.ref ld) (dTerms n m (norm ((n : Int) + (m : Int)).toNat (sumA p gs))) := .lst (.inl (.inl (s15 _ _ hld))) (terms_dp (Paired.mapP pd fun _ _ h => TermP.same s15 h))
      refine ⟨.ref L1, _, rfl, dT1, smA.shaped (by decide), smA.sho, smA.wide (by decide), _, rfl, .ref ld, _, rfl, dT2, smA.shaped (by decide), smA.sho, smA.wide (by decide), rfl, _, rfl, if_neg_of (ne_no _) ?_⟩
      have ha5 := s' _ _ ha1
      refine ⟨_, rfl, a1, CS, dx1, _, _, rfl, ha5, S_Sum.cl, S_Sum.nw, rfl, _, rfl, a1, CS, dx1, _, _, rfl, ha5, S_Sum.cl, S_Sum.nn, rfl, _, rfl, a1, CS, dx1, _, _, rfl, ha5, S_Sum.cl, S_Sum.nm, rfl, (by show 3 ≤ sizeLine; decide), fun q1 nq1 => ?_⟩
      have v1 := same_upd (o := .tup [.ref x, .int (n : Int), .int (m : Int)]) nq1
      refine ⟨_, rfl, _, rfl, _, rfl, (by show 3 ≤ sizeLine; decide), fun q2 nq2 => ?_⟩
      have v2 := same_upd (o := .tup [.ref x, .int (n : Int), .int (m : Int)]) nq2
      have hx2 := sqT_same (Same.trans s15 (Same.trans v1 v2)) kB.hx
      refine ⟨.tuple [dP2 p d, .int n, .int m], .tuple [dP2 p d, .int n, .int m], .tup (.inl (.inl (v2 _ _ upd_same))) (.cons (.tup hx2 (.cons (.int _) (.cons (.int _) .nil))) (.cons (.int _) (.cons (.int _) .nil))), .tup (.inl (.inl upd_same)) (.cons (.tup hx2 (.cons (.int _) (.cons (.int _) .nil))) (.cons (.int _) (.cons (.int _) .nil))), dWnm_shaped _ _ _ _, dWnm_shaped _ _ _ _, ?_⟩
      rw [dWnm_same]
      exact ⟨_, rfl, if_neg_of (by decide) ⟨rfl, Same.trans s15 (Same.trans v1 v2)⟩⟩
    clear s14
    rintro σ H15 ⟨rfl, s15⟩
    refine ⟨fun σ H' => σ = [some (.ref sc), some (.ref r), some (.ref x), some (.int (n : Int)), some (.int (m : Int)), some (.ref L), some (.ref Lp), some (.ref Dt), v8, v9, v10, some (.ref lp), some (.ref a1), some (.ref ld), some (.ref lt), none, none] ∧ Same H12 H', ?_, ?_⟩
    · have k15 := kB.same s15
      refine ⟨_, rfl, L, rfl, ⟨us, .inl (.inl k15.hL)⟩, fun Z nZ => ?_⟩
      have LZ := ne_of_none k15.hL nZ
      refine lc_it (walk_list (xs := us)) (fun i H' => SameBut Z H15 H' ∧ H' Z = some (.lst ((List.replicate i true).map V.bl))) ⟨SameBut.upd, upd_same⟩ (fun i H' _ hP => .inl (.inl (hP.1 _ _ LZ k15.hL))) (fun i y H3 H3' hi hP hy => ?_) (fun H3 hP => ?_)
      · obtain ⟨sb, hZ⟩ := hP
        obtain ⟨e0, hy⟩ := hy
        subst e0
        have s3 : Same H15 H3' := fun b o e => sb b o (ne_of_none e nZ) e
        have s23 := Same.trans s15 s3
        have sv3 := sv.same s23
        obtain ⟨dx1, Dn, kvz, ha1, _⟩ := id sv3
        obtain ⟨b, eb, db⟩ := LiI.paired_get kB.hU hy
        have db3 := db.same s23
        have dgb : IsDg n m b := by
          obtain ⟨l, e1, hl⟩ := allS_gd (List.mem_of_getElem? eb)
          rw [e1]
          exact isDg_blocks sz (by omega)
        have dgok : DgOk n m b := (dgb.few.more (by decide)).ok (by omega) (by omega)
        refine ⟨rfl, _, rfl, a1, dx1, _, rfl, ha1, by rfl, _, rfl, a1, x, n, m, _, y, n, m, b, rfl, sv3, db3, dgok, fun nd => absurd dgb nd, fun _ ne => absurd ⟨rfl, rfl⟩ ne, fun _ _ _ t H' s' ht => ?_⟩
        obtain ⟨kvs, hz, KO, en⟩ := kB.hD.same (Same.trans s23 s')
        obtain ⟨qk, rfl, isk⟩ := isK_dg (db3.same s')
        refine ⟨_, rfl, Dt, kvs, rfl, hz.rd, KO, _, rfl, (by show 2 ≤ sizeLine; decide), fun z nz => ?_⟩
        have v1 := same_upd (o := .tup [.int 0, .int 1]) nz
        obtain ⟨t2, et, ht2⟩ := (en.same v1).num b (show SqT K _ z [.int 0, .int 1] from .inl (.inl upd_same))
        refine ⟨((n : Int), (m : Int), b), qk, rfl, (hz.same v1).rd, KO.same fun b xs h => v1 _ _ h, isk.same fun b xs h => v1 _ _ h, ?_⟩
        rw [et]
        refine ⟨dP2 (numA (norm ((n : Int) + (m : Int)).toNat (sumA p gs)) b).1 (numA (norm ((n : Int) + (m : Int)).toNat (sumA p gs)) b).2, dP2 (numA (sumA p gs) b).1 (numA (sumA p gs) b).2, .tup (sqT_same v1 ht) (.cons (.int _) (.cons (.int _) .nil)), .tup ht2 (.cons (.int _) (.cons (.int _) .nil)), dP2_shaped _ _, dP2_shaped _ _, ?_⟩
        rw [eqv_P2, numE b, decide_eq_true ⟨rfl, rfl⟩]
        have s4 := Same.trans s' v1
        have hZ4 := s4 _ _ hZ
        refine ⟨_, hZ4, by rw [List.length_map, List.length_replicate]; omega, fun b o nb e => by rw [upd_ne nb]; exact s4 _ _ (sb b o nb e), ?_⟩
        rw [upd_same, List.replicate_succ', List.map_append]
        rfl
      · obtain ⟨sb, hZ⟩ := hP
        have s3 : Same H15 H3 := fun b o e => sb b o (ne_of_none e nZ) e
        refine ⟨Z, _, rfl, .inl (.inl hZ), ?_⟩
        rw [all_true]
        exact ⟨_, rfl, if_neg_of (by decide) ⟨rfl, Same.trans s15 s3⟩⟩
    clear s15
    rintro σ H16 ⟨rfl, s16⟩
    refine ⟨fun σ H' => ∃ a2, σ = [some (.ref sc), some (.ref r), some (.ref x), some (.int (n : Int)), some (.int (m : Int)), some (.ref L), some (.ref Lp), some (.ref Dt), v8, v9, v10, some (.ref lp), some (.ref a1), some (.ref ld), some (.ref lt), some (.ref a2), none] ∧ Same H12 H' ∧ SumV K P w CS H' a2 x n m (norm ((n : Int) + (m : Int)).toNat (sumA p gs.reverse)), ?_, ?_⟩
    · have k16 := kB.same s16
      refine ⟨_, rfl, _, rfl, _, rfl, _, rfl, Lp, ts, rfl, .inl (.inl k16.hP), fun q nq x1 dx n1 n2 ne => ?_⟩
      have v1 := same_upd (o := .lst ts.reverse) nq
      have k17 := k16.same v1
      have hTr : Paired (TermP K (upd H16 q (.lst ts.reverse))) ts.reverse (gs.reverse.map (toT n m)) := by
        rw [List.map_reverse]
        exact paired_rev k17.hT
      refine sum_make hW hs k17.hx (.inl (.inl upd_same)) hTr (fun e he => ga e (List.mem_reverse.mp he)) (fun e he => kB.hN e (List.mem_reverse.mp he)) (by decide) (by decide) (by rw [List.length_reverse]; omega) (by rw [List.length_reverse]; omega) n1 n2 ne (fun H' s' sv => ?_)
      exact ⟨x1, rfl, Same.trans s16 (Same.trans v1 s'), sv⟩
    clear s16
    rintro σ H17 ⟨a2, rfl, s17, sv2⟩
    have lS : us.length = (us.length - 1) + 1 := by omega
    have tl : us.length - 1 < us.length := by omega
    obtain ⟨bl, ebl, dbl⟩ := LiI.paired_get kB.hU (List.getElem?_eq_getElem tl)
    have mbl : bl ∈ allS n m := List.mem_of_getElem? ebl
    refine ⟨fun σ H' => ∃ a3, σ = [some (.ref sc), some (.ref r), some (.ref x), some (.int (n : Int)), some (.int (m : Int)), some (.ref L), some (.ref Lp), some (.ref Dt), v8, v9, v10, some (.ref lp), some (.ref a1), some (.ref ld), some (.ref lt), some (.ref a2), some (.ref a3)] ∧ Same H17 H' ∧ SumV K P w CS H' a3 x n m (norm ((n : Int) + (m : Int)).toNat (sumA p (gs ++ [(bl, 1, 1)]))), ?_, ?_⟩
    · have k17 := kB.same s17
      refine ⟨_, rfl, _, rfl, _, rfl, _, rfl, _, rfl, _, rfl, L, us, -1, us[us.length - 1], rfl, rfl, .inl (.inl k17.hL), atI_last lS (List.getElem?_eq_getElem tl), (by show 2 ≤ sizeLine; decide), fun q1 m1 => ⟨(by show 2 ≤ sizeLine; decide), fun q2 m2 => ⟨(by show 1 ≤ sizeLine; decide), fun q3 m3 => ?_⟩⟩⟩
      have v1 := same_upd (o := .tup [.int 1, .int 1]) m1
      have v2 := same_upd (o := .tup [us[us.length - 1], .ref q1]) m2
      have v3 := same_upd (o := .lst [.ref q2]) m3
      have v123 := Same.trans v1 (Same.trans v2 v3)
      have h1 := v3 _ _ (v2 _ _ (show upd H17 q1 (.tup [.int 1, .int 1]) q1 = _ from upd_same))
      have h2 := v3 _ _ (show upd (upd H17 q1 (.tup [.int 1, .int 1])) q2 (.tup [us[us.length - 1], .ref q1]) q2 = _ from upd_same)
      have h3 : upd (upd (upd H17 q1 (.tup [.int 1, .int 1])) q2 (.tup [us[us.length - 1], .ref q1])) q3 (.lst [.ref q2]) q3 = some (.lst [.ref q2]) := upd_same
      have k18 := k17.same v123
      have db18 := dbl.same (Same.trans s17 v123)
      revert h1 h2 h3 k18 db18 v123
      generalize upd (upd (upd H17 q1 (.tup [.int 1, .int 1])) q2 (.tup [us[us.length - 1], .ref q1])) q3 (.lst [.ref q2]) = H18
      intro v123 h1 h2 h3 k18 db18
      refine ⟨Lp, q3, ts, _, rfl, rfl, k18.hP, h3, (by show ts.length + 1 ≤ sizeLine; omega), fun q4 m4 x1 dx n1 n2 ne => ?_⟩
      have v4 := same_upd (o := .lst (ts ++ [.ref q2])) m4
      have k19 := k18.same v4
      have hTm : Paired (TermP K (upd H18 q4 (.lst (ts ++ [.ref q2])))) (ts ++ [.ref q2]) ((gs ++ [(bl, 1, 1)]).map (toT n m)) := by
        rw [List.map_append]
        exact paired_app k19.hT (.cons ⟨q2, us[us.length - 1], q1, rfl, .inl (.inl (v4 _ _ h2)), db18.same v4, .inl (.inl (v4 _ _ h1))⟩ .nil)
      refine sum_make (M := 4) (D := 6) hW hs k19.hx (.inl (.inl upd_same)) hTm (fun e he => ?_) (fun e he => ?_) (by decide) (by decide) (by rw [List.length_append]; show (gs.length + 1) * 4 + 4 ≤ _; omega) (by rw [List.length_append]; show ts.length + 1 ≤ _; omega) n1 n2 ne (fun H' s' sv => ?_)
      · rcases List.mem_append.mp he with he | he
        · exact ga e he
        · rw [List.mem_singleton.mp he, eN]
          exact allS_gd mbl
      · rcases List.mem_append.mp he with he | he
        · exact kB.hN e he
        · rw [List.mem_singleton.mp he]
          exact (one_nb hp).more (by decide)
      · exact ⟨x1, rfl, Same.trans v123 (Same.trans v4 s'), sv⟩
    rintro σ H18 ⟨a3, rfl, s18, sv3⟩
    have s1218 := Same.trans s17 s18
    have sv1 := sv.same s1218
    have sv2 := sv2.same s18
    have k18 := kB.same s1218
    have hld := s1218 _ _ hld
    have ldl := pd.length
    have sbz := smL_bool (decide ((norm ((n : Int) + (m : Int)).toNat (sumA p gs)).length = 0))
    clear s17 s18 s1218
    refine ⟨fun σ H' => σ = [some (.ref sc), some (.ref r), some (.ref x), some (.int (n : Int)), some (.int (m : Int)), some (.ref L), some (.ref Lp), some (.ref Dt), v8, v9, v10, some (.ref lp), some (.ref a1), some (.ref ld), some (.ref lt), some (.ref a2), some (.ref a3)] ∧ Same H18 H', ?_, ?_⟩
    · obtain ⟨dx1, Dn1, kvz1, ha1, _⟩ := id sv1
      obtain ⟨dx2, Dn2, kvz2, ha2, _⟩ := id sv2
      obtain ⟨dx3, Dn3, kvz3, ha3, _⟩ := id sv3
      have nd2 := norm_nd (N := ((n : Int) + (m : Int)).toNat) (sumA_nodup p gs.reverse)
      have nd3 := norm_nd (N := ((n : Int) + (m : Int)).toNat) (sumA_nodup p (gs ++ [(bl, 1, 1)]))
      refine ⟨_, rfl, _, rfl, a1, a2, dx1, dx2, _, _, rfl, rfl, ha1, ha2, a1, a2, x, x, n, m, n, m, p, d, p, d, _, _, rfl, sv1, sv2, k18.hx, k18.hx, ndA, nd2, ?_⟩
      rw [eq_res, sum_again hp (by decide) kB.hN]
      refine ⟨_, rfl, if_neg_of (by decide) ?_⟩
      refine ⟨_, rfl, _, rfl, a1, a3, dx1, dx3, _, _, rfl, rfl, ha1, ha3, a1, a3, x, x, n, m, n, m, p, d, p, d, _, _, rfl, sv1, sv3, k18.hx, k18.hx, ndA, nd3, ?_⟩
      rw [eq_res, sum_more hp (by decide) (by decide) kB.hN]
      refine ⟨_, rfl, if_neg_of (by decide) ?_⟩
      refine ⟨_, rfl, _, rfl, _, rfl, _, rfl, x, p, d, n, m, rfl, k18.hx, hW, hs, fun a4 H19 s19 nz sv4 => ?_⟩
      have sv19 := sv1.same s19
      obtain ⟨dx4, Dn4, kvz4, ha4, _⟩ := id sv4
      refine ⟨a1, a4, dx1, dx4, _, _, rfl, rfl, s19 _ _ ha1, ha4, a1, a4, x, x, n, m, n, m, p, d, p, d, _, _, rfl, sv19, sv4, sqT_same s19 k18.hx, sqT_same s19 k18.hx, ndA, List.nodup_nil, ?_⟩
      rw [eq_res, sum_zero]
      refine ⟨.bl _, .bool _, rfl, .bl _, sbz.shaped (by decide), sbz.sho, sbz.wide (by decide), ?_⟩
      refine ⟨_, rfl, ld, ud, rfl, .inl (.inl (.inl (s19 _ _ hld))), ?_⟩
      have eb : decide (V.int ((ud.length : Nat) : Int) = V.int 0) = decide ((norm ((n : Int) + (m : Int)).toNat (sumA p gs)).length = 0) := by
        rw [ldl]
        exact decide_eq_decide.mpr ⟨fun h => by have := V.int.inj h; omega, fun h => by rw [h]; rfl⟩
      refine ⟨rfl, _, .bool (decide ((norm ((n : Int) + (m : Int)).toNat (sumA p gs)).length = 0)), rfl, ?_, sbz.shaped (by decide), sbz.sho, sbz.wide (by decide), rfl, _, rfl, if_neg_of (ne_no _) ⟨rfl, s19⟩⟩
      rw [eb]
      exact .bl _
    clear sv1 sv2 sv3 hld
    rintro σ H19 ⟨rfl, s19⟩
    have k19 := k18.same s19
    refine ⟨_, rfl, _, rfl, _, rfl, _, rfl, x, Lp, p, d, n, m, ts, gs, 4, 6, rfl, k19.hx, hW, by omega, by omega, by omega, by omega, k19.hP, k19.hT, ga, k19.hN, by decide, by decide, by omega, by omega, fun H20 s20 => ⟨_, rfl, ?_⟩⟩
    have k20 := k19.same s20
    refine if_pos_of rfl ?_
    refine ⟨_, rfl, _, rfl, _, rfl, x, p, d, n, m, rfl, k20.hx, hW, hs, fun a4 H21 s21 nz sv4 => ?_⟩
    obtain ⟨dx4, Dn4, kvz4, ha4, _⟩ := id sv4
    refine ⟨a4, dx4, _, rfl, ha4, by rfl, a4, x, n, m, [], rfl, sv4, fun L1 us1 H' s' nL hL' pr => ?_⟩
    cases pr
    refine ⟨_, .inl ⟨_, .inl (.inl hL'), rfl⟩, ?_⟩
    exact q H'
end

theorem all_mk {P : Program} {w : World} {K : PySem.W.Frag} {h : Heap} {mg : Str → Option Value} {fa : Addr} (X : K.In h) (G : h.Ns mainGlobals mg) (hfa : mg "law" = some (.ref fa))
    {f_is_world : Addr} {od_is_world an_is_world : Option Addr} {sl_is_world : Array (Option Value)} {oc_is_world kV_is_world dc_is_world pm_is_world cd_is_world ct_is_world : Value}
    {f_law_number : Addr} {od_law_number an_law_number : Option Addr} {sl_law_number : Array (Option Value)} {oc_law_number kV_law_number dc_law_number pm_law_number cd_law_number ct_law_number : Value}
    {f_law_next : Addr} {od_law_next an_law_next : Option Addr} {sl_law_next : Array (Option Value)} {oc_law_next kV_law_next dc_law_next pm_law_next cd_law_next ct_law_next : Value}
    {f_law_draws : Addr} {od_law_draws an_law_draws : Option Addr} {sl_law_draws : Array (Option Value)} {oc_law_draws kV_law_draws dc_law_draws pm_law_draws cd_law_draws ct_law_draws : Value}
    {f_check_world : Addr} {od_check_world an_check_world : Option Addr} {sl_check_world : Array (Option Value)} {oc_check_world kV_check_world dc_check_world pm_check_world cd_check_world ct_check_world : Value}
    {f_is_number : Addr} {od_is_number an_is_number : Option Addr} {sl_is_number : Array (Option Value)} {oc_is_number kV_is_number dc_is_number pm_is_number cd_is_number ct_is_number : Value}
    {f_check_number : Addr} {od_check_number an_check_number : Option Addr} {sl_check_number : Array (Option Value)} {oc_check_number kV_check_number dc_check_number pm_check_number cd_check_number ct_check_number : Value}
    {f_lowest_ : Addr} {od_lowest_ an_lowest_ : Option Addr} {sl_lowest_ : Array (Option Value)} {oc_lowest_ kV_lowest_ dc_lowest_ pm_lowest_ cd_lowest_ ct_lowest_ : Value}
    {f_inverse_ : Addr} {od_inverse_ an_inverse_ : Option Addr} {sl_inverse_ : Array (Option Value)} {oc_inverse_ kV_inverse_ dc_inverse_ pm_inverse_ cd_inverse_ ct_inverse_ : Value}
    {dT_number : Addr}
    {f_number : Addr} {od_number an_number : Option Addr} {sl_number : Array (Option Value)} {oc_number kV_number dc_number pm_number cd_number ct_number : Value}
    {f_check_two_ : Addr} {od_check_two_ an_check_two_ : Option Addr} {sl_check_two_ : Array (Option Value)} {oc_check_two_ kV_check_two_ dc_check_two_ pm_check_two_ cd_check_two_ ct_check_two_ : Value}
    {f_plus : Addr} {od_plus an_plus : Option Addr} {sl_plus : Array (Option Value)} {oc_plus kV_plus dc_plus pm_plus cd_plus ct_plus : Value}
    {f_is_size_ : Addr} {od_is_size_ an_is_size_ : Option Addr} {sl_is_size_ : Array (Option Value)} {oc_is_size_ kV_is_size_ dc_is_size_ pm_is_size_ cd_is_size_ ct_is_size_ : Value}
    {f_check_size_ : Addr} {od_check_size_ an_check_size_ : Option Addr} {sl_check_size_ : Array (Option Value)} {oc_check_size_ kV_check_size_ dc_check_size_ pm_check_size_ cd_check_size_ ct_check_size_ : Value}
    {f_is_diagram : Addr} {od_is_diagram an_is_diagram : Option Addr} {sl_is_diagram : Array (Option Value)} {oc_is_diagram kV_is_diagram dc_is_diagram pm_is_diagram cd_is_diagram ct_is_diagram : Value}
    {f_check_diagram : Addr} {od_check_diagram an_check_diagram : Option Addr} {sl_check_diagram : Array (Option Value)} {oc_check_diagram kV_check_diagram dc_check_diagram pm_check_diagram cd_check_diagram ct_check_diagram : Value}
    {f_labels : Addr} {od_labels an_labels : Option Addr} {sl_labels : Array (Option Value)} {oc_labels kV_labels dc_labels pm_labels cd_labels ct_labels : Value}
    {f_law_marked : Addr} {od_law_marked an_law_marked : Option Addr} {sl_law_marked : Array (Option Value)} {oc_law_marked kV_law_marked dc_law_marked pm_law_marked cd_law_marked ct_law_marked : Value}
    {f_law_belongs : Addr} {od_law_belongs an_law_belongs : Option Addr} {sl_law_belongs : Array (Option Value)} {oc_law_belongs kV_law_belongs dc_law_belongs pm_law_belongs cd_law_belongs ct_law_belongs : Value}
    {f_law_all : Addr} {od_law_all an_law_all : Option Addr} {sl_law_all : Array (Option Value)} {oc_law_all kV_law_all dc_law_all pm_law_all cd_law_all ct_law_all : Value}
    {f_law_marks : Addr} {od_law_marks an_law_marks : Option Addr} {sl_law_marks : Array (Option Value)} {oc_law_marks kV_law_marks dc_law_marks pm_law_marks cd_law_marks ct_law_marks : Value}
    {f_law_world : Addr} {od_law_world an_law_world : Option Addr} {sl_law_world : Array (Option Value)} {oc_law_world kV_law_world dc_law_world pm_law_world cd_law_world ct_law_world : Value}
    {f_check_sum_size : Addr} {od_check_sum_size an_check_sum_size : Option Addr} {sl_check_sum_size : Array (Option Value)} {oc_check_sum_size kV_check_sum_size dc_check_sum_size pm_check_sum_size cd_check_sum_size ct_check_sum_size : Value}
    {f_check_points_ : Addr} {od_check_points_ an_check_points_ : Option Addr} {sl_check_points_ : Array (Option Value)} {oc_check_points_ kV_check_points_ dc_check_points_ pm_check_points_ cd_check_points_ ct_check_points_ : Value}
    {f_Sum_init : Addr} {od_Sum_init an_Sum_init : Option Addr} {sl_Sum_init : Array (Option Value)} {oc_Sum_init kV_Sum_init dc_Sum_init pm_Sum_init cd_Sum_init ct_Sum_init : Value}
    {f_Sum_terms : Addr} {od_Sum_terms an_Sum_terms : Option Addr} {sl_Sum_terms : Array (Option Value)} {oc_Sum_terms kV_Sum_terms dc_Sum_terms pm_Sum_terms cd_Sum_terms ct_Sum_terms : Value}
    {f_Sum_at : Addr} {od_Sum_at an_Sum_at : Option Addr} {sl_Sum_at : Array (Option Value)} {oc_Sum_at kV_Sum_at dc_Sum_at pm_Sum_at cd_Sum_at ct_Sum_at : Value}
    {f_Sum_len : Addr} {od_Sum_len an_Sum_len : Option Addr} {sl_Sum_len : Array (Option Value)} {oc_Sum_len kV_Sum_len dc_Sum_len pm_Sum_len cd_Sum_len ct_Sum_len : Value}
    {f_Sum_bool : Addr} {od_Sum_bool an_Sum_bool : Option Addr} {sl_Sum_bool : Array (Option Value)} {oc_Sum_bool kV_Sum_bool dc_Sum_bool pm_Sum_bool cd_Sum_bool ct_Sum_bool : Value}
    {f_Sum_eq : Addr} {od_Sum_eq an_Sum_eq : Option Addr} {sl_Sum_eq : Array (Option Value)} {oc_Sum_eq kV_Sum_eq dc_Sum_eq pm_Sum_eq cd_Sum_eq ct_Sum_eq : Value}
    {f_law_lowest : Addr} {od_law_lowest an_law_lowest : Option Addr} {sl_law_lowest : Array (Option Value)} {oc_law_lowest kV_law_lowest dc_law_lowest pm_law_lowest cd_law_lowest ct_law_lowest : Value}
    {f_law_value : Addr} {od_law_value an_law_value : Option Addr} {sl_law_value : Array (Option Value)} {oc_law_value kV_law_value dc_law_value pm_law_value cd_law_value ct_law_value : Value}
    {f_law_plus : Addr} {od_law_plus an_law_plus : Option Addr} {sl_law_plus : Array (Option Value)} {oc_law_plus kV_law_plus dc_law_plus pm_law_plus cd_law_plus ct_law_plus : Value}
    {f_law_added : Addr} {od_law_added an_law_added : Option Addr} {sl_law_added : Array (Option Value)} {oc_law_added kV_law_added dc_law_added pm_law_added cd_law_added ct_law_added : Value}
    {f_law_listed : Addr} {od_law_listed an_law_listed : Option Addr} {sl_law_listed : Array (Option Value)} {oc_law_listed kV_law_listed dc_law_listed pm_law_listed cd_law_listed ct_law_listed : Value}
    {f_zero_sum : Addr} {od_zero_sum an_zero_sum : Option Addr} {sl_zero_sum : Array (Option Value)} {oc_zero_sum kV_zero_sum dc_zero_sum pm_zero_sum cd_zero_sum ct_zero_sum : Value}
    {f_law_kind : Addr} {od_law_kind an_law_kind : Option Addr} {sl_law_kind : Array (Option Value)} {oc_law_kind kV_law_kind dc_law_kind pm_law_kind cd_law_kind ct_law_kind : Value}
    {f_law_told : Addr} {od_law_told an_law_told : Option Addr} {sl_law_told : Array (Option Value)} {oc_law_told kV_law_told dc_law_told pm_law_told cd_law_told ct_law_told : Value}
    {f_law_refuses : Addr} {od_law_refuses an_law_refuses : Option Addr} {sl_law_refuses : Array (Option Value)} {oc_law_refuses kV_law_refuses dc_law_refuses pm_law_refuses cd_law_refuses ct_law_refuses : Value}
    {f_law : Addr} {od_law an_law : Option Addr} {sl_law : Array (Option Value)} {oc_law kV_law dc_law pm_law cd_law ct_law : Value}
    {aP : Addr} {ddP : Option Addr} {nP : Nat} {slP : Array (Option Value)} {u2 u3 u5 u7 u11 u13 u17 u19 u23 u29 u31 : Tok}
    {CW : Addr}
    {CN : Addr}
    {CB : Addr}
    {CD : Addr}
    {CT : Addr}
    {CF : Addr}
    {dd_number : Option Addr} {un : Tok} {nn_number : Nat} {sd_number : Array (Option Value)}
    {tm_MOST_ON_A_SIDE : Tok}
    {tm_MOST_POINTS : Tok}
    {tm_MOST_SUM_POINTS : Tok}
    {aZ : Addr} {ddZ : Option Addr} {nZ : Nat} {slZ : Array (Option Value)} {uz1 uz2 : Tok}
    {CE : Addr}
    {CS : Addr}
    (a_is_world : PySem.W.nsIn K mainGlobals "is_world" = some (some (.ref f_is_world))) (l_is_world : K.lookup f_is_world = some ⟨oc_is_world, od_is_world, .func (PySem.W.fnOf "is_world" "is_world" (defArgs s_is_world) (defBody s_is_world) (defScope s_is_world) .none kV_is_world dc_is_world pm_is_world an_is_world cd_is_world ct_is_world), sl_is_world⟩) (c_is_world : PySem.W.codeIn K cd_is_world "is_world" = true) (k_is_world : PySem.W.keepIn K (.ref f_is_world) = true)
    (a_law_number : PySem.W.nsIn K mainGlobals "_law_number" = some (some (.ref f_law_number))) (l_law_number : K.lookup f_law_number = some ⟨oc_law_number, od_law_number, .func (PySem.W.fnOf "_law_number" "_law_number" (defArgs s_law_number) (defBody s_law_number) (defScope s_law_number) .none kV_law_number dc_law_number pm_law_number an_law_number cd_law_number ct_law_number), sl_law_number⟩) (c_law_number : PySem.W.codeIn K cd_law_number "_law_number" = true) (k_law_number : PySem.W.keepIn K (.ref f_law_number) = true)
    (a_law_next : PySem.W.nsIn K mainGlobals "_law_next" = some (some (.ref f_law_next))) (l_law_next : K.lookup f_law_next = some ⟨oc_law_next, od_law_next, .func (PySem.W.fnOf "_law_next" "_law_next" (defArgs s_law_next) (defBody s_law_next) (defScope s_law_next) .none kV_law_next dc_law_next pm_law_next an_law_next cd_law_next ct_law_next), sl_law_next⟩) (c_law_next : PySem.W.codeIn K cd_law_next "_law_next" = true) (k_law_next : PySem.W.keepIn K (.ref f_law_next) = true)
    (a_law_draws : PySem.W.nsIn K mainGlobals "_law_draws" = some (some (.ref f_law_draws))) (l_law_draws : K.lookup f_law_draws = some ⟨oc_law_draws, od_law_draws, .func (PySem.W.fnOf "_law_draws" "_law_draws" (defArgs s_law_draws) (defBody s_law_draws) (defScope s_law_draws) .none kV_law_draws dc_law_draws pm_law_draws an_law_draws cd_law_draws ct_law_draws), sl_law_draws⟩) (c_law_draws : PySem.W.codeIn K cd_law_draws "_law_draws" = true) (k_law_draws : PySem.W.keepIn K (.ref f_law_draws) = true)
    (a_check_world : PySem.W.nsIn K mainGlobals "check_world" = some (some (.ref f_check_world))) (l_check_world : K.lookup f_check_world = some ⟨oc_check_world, od_check_world, .func (PySem.W.fnOf "check_world" "check_world" (defArgs s_check_world) (defBody s_check_world) (defScope s_check_world) .none kV_check_world dc_check_world pm_check_world an_check_world cd_check_world ct_check_world), sl_check_world⟩) (c_check_world : PySem.W.codeIn K cd_check_world "check_world" = true) (k_check_world : PySem.W.keepIn K (.ref f_check_world) = true)
    (a_is_number : PySem.W.nsIn K mainGlobals "is_number" = some (some (.ref f_is_number))) (l_is_number : K.lookup f_is_number = some ⟨oc_is_number, od_is_number, .func (PySem.W.fnOf "is_number" "is_number" (defArgs s_is_number) (defBody s_is_number) (defScope s_is_number) .none kV_is_number dc_is_number pm_is_number an_is_number cd_is_number ct_is_number), sl_is_number⟩) (c_is_number : PySem.W.codeIn K cd_is_number "is_number" = true) (k_is_number : PySem.W.keepIn K (.ref f_is_number) = true)
    (a_check_number : PySem.W.nsIn K mainGlobals "check_number" = some (some (.ref f_check_number))) (l_check_number : K.lookup f_check_number = some ⟨oc_check_number, od_check_number, .func (PySem.W.fnOf "check_number" "check_number" (defArgs s_check_number) (defBody s_check_number) (defScope s_check_number) .none kV_check_number dc_check_number pm_check_number an_check_number cd_check_number ct_check_number), sl_check_number⟩) (c_check_number : PySem.W.codeIn K cd_check_number "check_number" = true) (k_check_number : PySem.W.keepIn K (.ref f_check_number) = true)
    (a_lowest_ : PySem.W.nsIn K mainGlobals "_lowest" = some (some (.ref f_lowest_))) (l_lowest_ : K.lookup f_lowest_ = some ⟨oc_lowest_, od_lowest_, .func (PySem.W.fnOf "_lowest" "_lowest" (defArgs s_lowest_) (defBody s_lowest_) (defScope s_lowest_) .none kV_lowest_ dc_lowest_ pm_lowest_ an_lowest_ cd_lowest_ ct_lowest_), sl_lowest_⟩) (c_lowest_ : PySem.W.codeIn K cd_lowest_ "_lowest" = true) (k_lowest_ : PySem.W.keepIn K (.ref f_lowest_) = true)
    (a_inverse_ : PySem.W.nsIn K mainGlobals "_inverse" = some (some (.ref f_inverse_))) (l_inverse_ : K.lookup f_inverse_ = some ⟨oc_inverse_, od_inverse_, .func (PySem.W.fnOf "_inverse" "_inverse" (defArgs s_inverse_) (defBody s_inverse_) (defScope s_inverse_) .none kV_inverse_ dc_inverse_ pm_inverse_ an_inverse_ cd_inverse_ ct_inverse_), sl_inverse_⟩) (c_inverse_ : PySem.W.codeIn K cd_inverse_ "_inverse" = true) (k_inverse_ : PySem.W.keepIn K (.ref f_inverse_) = true)
    (a_number : PySem.W.nsIn K mainGlobals "number" = some (some (.ref f_number))) (l_number : K.lookup f_number = some ⟨oc_number, od_number, .func (PySem.W.fnOf "number" "number" (defArgs s_number) (defBody s_number) (defScope s_number) (.ref dT_number) kV_number dc_number pm_number an_number cd_number ct_number), sl_number⟩) (c_number : PySem.W.codeIn K cd_number "number" = true) (k_number : PySem.W.keepIn K (.ref f_number) = true)
    (a_check_two_ : PySem.W.nsIn K mainGlobals "_check_two" = some (some (.ref f_check_two_))) (l_check_two_ : K.lookup f_check_two_ = some ⟨oc_check_two_, od_check_two_, .func (PySem.W.fnOf "_check_two" "_check_two" (defArgs s_check_two_) (defBody s_check_two_) (defScope s_check_two_) .none kV_check_two_ dc_check_two_ pm_check_two_ an_check_two_ cd_check_two_ ct_check_two_), sl_check_two_⟩) (c_check_two_ : PySem.W.codeIn K cd_check_two_ "_check_two" = true) (k_check_two_ : PySem.W.keepIn K (.ref f_check_two_) = true)
    (a_plus : PySem.W.nsIn K mainGlobals "plus" = some (some (.ref f_plus))) (l_plus : K.lookup f_plus = some ⟨oc_plus, od_plus, .func (PySem.W.fnOf "plus" "plus" (defArgs s_plus) (defBody s_plus) (defScope s_plus) .none kV_plus dc_plus pm_plus an_plus cd_plus ct_plus), sl_plus⟩) (c_plus : PySem.W.codeIn K cd_plus "plus" = true) (k_plus : PySem.W.keepIn K (.ref f_plus) = true)
    (a_is_size_ : PySem.W.nsIn K mainGlobals "_is_size" = some (some (.ref f_is_size_))) (l_is_size_ : K.lookup f_is_size_ = some ⟨oc_is_size_, od_is_size_, .func (PySem.W.fnOf "_is_size" "_is_size" (defArgs s_is_size_) (defBody s_is_size_) (defScope s_is_size_) .none kV_is_size_ dc_is_size_ pm_is_size_ an_is_size_ cd_is_size_ ct_is_size_), sl_is_size_⟩) (c_is_size_ : PySem.W.codeIn K cd_is_size_ "_is_size" = true) (k_is_size_ : PySem.W.keepIn K (.ref f_is_size_) = true)
    (a_check_size_ : PySem.W.nsIn K mainGlobals "_check_size" = some (some (.ref f_check_size_))) (l_check_size_ : K.lookup f_check_size_ = some ⟨oc_check_size_, od_check_size_, .func (PySem.W.fnOf "_check_size" "_check_size" (defArgs s_check_size_) (defBody s_check_size_) (defScope s_check_size_) .none kV_check_size_ dc_check_size_ pm_check_size_ an_check_size_ cd_check_size_ ct_check_size_), sl_check_size_⟩) (c_check_size_ : PySem.W.codeIn K cd_check_size_ "_check_size" = true) (k_check_size_ : PySem.W.keepIn K (.ref f_check_size_) = true)
    (a_is_diagram : PySem.W.nsIn K mainGlobals "is_diagram" = some (some (.ref f_is_diagram))) (l_is_diagram : K.lookup f_is_diagram = some ⟨oc_is_diagram, od_is_diagram, .func (PySem.W.fnOf "is_diagram" "is_diagram" (defArgs s_is_diagram) (defBody s_is_diagram) (defScope s_is_diagram) .none kV_is_diagram dc_is_diagram pm_is_diagram an_is_diagram cd_is_diagram ct_is_diagram), sl_is_diagram⟩) (c_is_diagram : PySem.W.codeIn K cd_is_diagram "is_diagram" = true) (k_is_diagram : PySem.W.keepIn K (.ref f_is_diagram) = true)
    (a_check_diagram : PySem.W.nsIn K mainGlobals "check_diagram" = some (some (.ref f_check_diagram))) (l_check_diagram : K.lookup f_check_diagram = some ⟨oc_check_diagram, od_check_diagram, .func (PySem.W.fnOf "check_diagram" "check_diagram" (defArgs s_check_diagram) (defBody s_check_diagram) (defScope s_check_diagram) .none kV_check_diagram dc_check_diagram pm_check_diagram an_check_diagram cd_check_diagram ct_check_diagram), sl_check_diagram⟩) (c_check_diagram : PySem.W.codeIn K cd_check_diagram "check_diagram" = true) (k_check_diagram : PySem.W.keepIn K (.ref f_check_diagram) = true)
    (a_labels : PySem.W.nsIn K mainGlobals "labels" = some (some (.ref f_labels))) (l_labels : K.lookup f_labels = some ⟨oc_labels, od_labels, .func (PySem.W.fnOf "labels" "labels" (defArgs s_labels) (defBody s_labels) (defScope s_labels) .none kV_labels dc_labels pm_labels an_labels cd_labels ct_labels), sl_labels⟩) (c_labels : PySem.W.codeIn K cd_labels "labels" = true) (k_labels : PySem.W.keepIn K (.ref f_labels) = true)
    (a_law_marked : PySem.W.nsIn K mainGlobals "_law_marked" = some (some (.ref f_law_marked))) (l_law_marked : K.lookup f_law_marked = some ⟨oc_law_marked, od_law_marked, .func (PySem.W.fnOf "_law_marked" "_law_marked" (defArgs s_law_marked) (defBody s_law_marked) (defScope s_law_marked) .none kV_law_marked dc_law_marked pm_law_marked an_law_marked cd_law_marked ct_law_marked), sl_law_marked⟩) (c_law_marked : PySem.W.codeIn K cd_law_marked "_law_marked" = true) (k_law_marked : PySem.W.keepIn K (.ref f_law_marked) = true)
    (a_law_belongs : PySem.W.nsIn K mainGlobals "_law_belongs" = some (some (.ref f_law_belongs))) (l_law_belongs : K.lookup f_law_belongs = some ⟨oc_law_belongs, od_law_belongs, .func (PySem.W.fnOf "_law_belongs" "_law_belongs" (defArgs s_law_belongs) (defBody s_law_belongs) (defScope s_law_belongs) .none kV_law_belongs dc_law_belongs pm_law_belongs an_law_belongs cd_law_belongs ct_law_belongs), sl_law_belongs⟩) (c_law_belongs : PySem.W.codeIn K cd_law_belongs "_law_belongs" = true) (k_law_belongs : PySem.W.keepIn K (.ref f_law_belongs) = true)
    (a_law_all : PySem.W.nsIn K mainGlobals "_law_all" = some (some (.ref f_law_all))) (l_law_all : K.lookup f_law_all = some ⟨oc_law_all, od_law_all, .func (PySem.W.fnOf "_law_all" "_law_all" (defArgs s_law_all) (defBody s_law_all) (defScope s_law_all) .none kV_law_all dc_law_all pm_law_all an_law_all cd_law_all ct_law_all), sl_law_all⟩) (c_law_all : PySem.W.codeIn K cd_law_all "_law_all" = true) (k_law_all : PySem.W.keepIn K (.ref f_law_all) = true)
    (a_law_marks : PySem.W.nsIn K mainGlobals "_law_marks" = some (some (.ref f_law_marks))) (l_law_marks : K.lookup f_law_marks = some ⟨oc_law_marks, od_law_marks, .func (PySem.W.fnOf "_law_marks" "_law_marks" (defArgs s_law_marks) (defBody s_law_marks) (defScope s_law_marks) .none kV_law_marks dc_law_marks pm_law_marks an_law_marks cd_law_marks ct_law_marks), sl_law_marks⟩) (c_law_marks : PySem.W.codeIn K cd_law_marks "_law_marks" = true) (k_law_marks : PySem.W.keepIn K (.ref f_law_marks) = true)
    (a_law_world : PySem.W.nsIn K mainGlobals "_law_world" = some (some (.ref f_law_world))) (l_law_world : K.lookup f_law_world = some ⟨oc_law_world, od_law_world, .func (PySem.W.fnOf "_law_world" "_law_world" (defArgs s_law_world) (defBody s_law_world) (defScope s_law_world) .none kV_law_world dc_law_world pm_law_world an_law_world cd_law_world ct_law_world), sl_law_world⟩) (c_law_world : PySem.W.codeIn K cd_law_world "_law_world" = true) (k_law_world : PySem.W.keepIn K (.ref f_law_world) = true)
    (a_check_sum_size : PySem.W.nsIn K mainGlobals "check_sum_size" = some (some (.ref f_check_sum_size))) (l_check_sum_size : K.lookup f_check_sum_size = some ⟨oc_check_sum_size, od_check_sum_size, .func (PySem.W.fnOf "check_sum_size" "check_sum_size" (defArgs s_check_sum_size) (defBody s_check_sum_size) (defScope s_check_sum_size) .none kV_check_sum_size dc_check_sum_size pm_check_sum_size an_check_sum_size cd_check_sum_size ct_check_sum_size), sl_check_sum_size⟩) (c_check_sum_size : PySem.W.codeIn K cd_check_sum_size "check_sum_size" = true) (k_check_sum_size : PySem.W.keepIn K (.ref f_check_sum_size) = true)
    (a_check_points_ : PySem.W.nsIn K mainGlobals "_check_points" = some (some (.ref f_check_points_))) (l_check_points_ : K.lookup f_check_points_ = some ⟨oc_check_points_, od_check_points_, .func (PySem.W.fnOf "_check_points" "_check_points" (defArgs s_check_points_) (defBody s_check_points_) (defScope s_check_points_) .none kV_check_points_ dc_check_points_ pm_check_points_ an_check_points_ cd_check_points_ ct_check_points_), sl_check_points_⟩) (c_check_points_ : PySem.W.codeIn K cd_check_points_ "_check_points" = true) (k_check_points_ : PySem.W.keepIn K (.ref f_check_points_) = true)
    (l_Sum_init : K.lookup f_Sum_init = some ⟨oc_Sum_init, od_Sum_init, .func (PySem.W.fnOf "__init__" "Sum.__init__" (defArgs s_Sum_init) (defBody s_Sum_init) (defScope s_Sum_init) .none kV_Sum_init dc_Sum_init pm_Sum_init an_Sum_init cd_Sum_init ct_Sum_init), sl_Sum_init⟩) (c_Sum_init : PySem.W.codeIn K cd_Sum_init "Sum.__init__" = true) (k_Sum_init : PySem.W.keepIn K (.ref f_Sum_init) = true)
    (l_Sum_terms : K.lookup f_Sum_terms = some ⟨oc_Sum_terms, od_Sum_terms, .func (PySem.W.fnOf "terms" "Sum.terms" (defArgs s_Sum_terms) (defBody s_Sum_terms) (defScope s_Sum_terms) .none kV_Sum_terms dc_Sum_terms pm_Sum_terms an_Sum_terms cd_Sum_terms ct_Sum_terms), sl_Sum_terms⟩) (c_Sum_terms : PySem.W.codeIn K cd_Sum_terms "Sum.terms" = true) (k_Sum_terms : PySem.W.keepIn K (.ref f_Sum_terms) = true)
    (l_Sum_at : K.lookup f_Sum_at = some ⟨oc_Sum_at, od_Sum_at, .func (PySem.W.fnOf "at" "Sum.at" (defArgs s_Sum_at) (defBody s_Sum_at) (defScope s_Sum_at) .none kV_Sum_at dc_Sum_at pm_Sum_at an_Sum_at cd_Sum_at ct_Sum_at), sl_Sum_at⟩) (c_Sum_at : PySem.W.codeIn K cd_Sum_at "Sum.at" = true) (k_Sum_at : PySem.W.keepIn K (.ref f_Sum_at) = true)
    (l_Sum_len : K.lookup f_Sum_len = some ⟨oc_Sum_len, od_Sum_len, .func (PySem.W.fnOf "__len__" "Sum.__len__" (defArgs s_Sum_len) (defBody s_Sum_len) (defScope s_Sum_len) .none kV_Sum_len dc_Sum_len pm_Sum_len an_Sum_len cd_Sum_len ct_Sum_len), sl_Sum_len⟩) (c_Sum_len : PySem.W.codeIn K cd_Sum_len "Sum.__len__" = true) (k_Sum_len : PySem.W.keepIn K (.ref f_Sum_len) = true)
    (l_Sum_bool : K.lookup f_Sum_bool = some ⟨oc_Sum_bool, od_Sum_bool, .func (PySem.W.fnOf "__bool__" "Sum.__bool__" (defArgs s_Sum_bool) (defBody s_Sum_bool) (defScope s_Sum_bool) .none kV_Sum_bool dc_Sum_bool pm_Sum_bool an_Sum_bool cd_Sum_bool ct_Sum_bool), sl_Sum_bool⟩) (c_Sum_bool : PySem.W.codeIn K cd_Sum_bool "Sum.__bool__" = true) (k_Sum_bool : PySem.W.keepIn K (.ref f_Sum_bool) = true)
    (l_Sum_eq : K.lookup f_Sum_eq = some ⟨oc_Sum_eq, od_Sum_eq, .func (PySem.W.fnOf "__eq__" "Sum.__eq__" (defArgs s_Sum_eq) (defBody s_Sum_eq) (defScope s_Sum_eq) .none kV_Sum_eq dc_Sum_eq pm_Sum_eq an_Sum_eq cd_Sum_eq ct_Sum_eq), sl_Sum_eq⟩) (c_Sum_eq : PySem.W.codeIn K cd_Sum_eq "Sum.__eq__" = true) (k_Sum_eq : PySem.W.keepIn K (.ref f_Sum_eq) = true)
    (a_law_lowest : PySem.W.nsIn K mainGlobals "_law_lowest" = some (some (.ref f_law_lowest))) (l_law_lowest : K.lookup f_law_lowest = some ⟨oc_law_lowest, od_law_lowest, .func (PySem.W.fnOf "_law_lowest" "_law_lowest" (defArgs s_law_lowest) (defBody s_law_lowest) (defScope s_law_lowest) .none kV_law_lowest dc_law_lowest pm_law_lowest an_law_lowest cd_law_lowest ct_law_lowest), sl_law_lowest⟩) (c_law_lowest : PySem.W.codeIn K cd_law_lowest "_law_lowest" = true) (k_law_lowest : PySem.W.keepIn K (.ref f_law_lowest) = true)
    (a_law_value : PySem.W.nsIn K mainGlobals "_law_value" = some (some (.ref f_law_value))) (l_law_value : K.lookup f_law_value = some ⟨oc_law_value, od_law_value, .func (PySem.W.fnOf "_law_value" "_law_value" (defArgs s_law_value) (defBody s_law_value) (defScope s_law_value) .none kV_law_value dc_law_value pm_law_value an_law_value cd_law_value ct_law_value), sl_law_value⟩) (c_law_value : PySem.W.codeIn K cd_law_value "_law_value" = true) (k_law_value : PySem.W.keepIn K (.ref f_law_value) = true)
    (a_law_plus : PySem.W.nsIn K mainGlobals "_law_plus" = some (some (.ref f_law_plus))) (l_law_plus : K.lookup f_law_plus = some ⟨oc_law_plus, od_law_plus, .func (PySem.W.fnOf "_law_plus" "_law_plus" (defArgs s_law_plus) (defBody s_law_plus) (defScope s_law_plus) .none kV_law_plus dc_law_plus pm_law_plus an_law_plus cd_law_plus ct_law_plus), sl_law_plus⟩) (c_law_plus : PySem.W.codeIn K cd_law_plus "_law_plus" = true) (k_law_plus : PySem.W.keepIn K (.ref f_law_plus) = true)
    (a_law_added : PySem.W.nsIn K mainGlobals "_law_added" = some (some (.ref f_law_added))) (l_law_added : K.lookup f_law_added = some ⟨oc_law_added, od_law_added, .func (PySem.W.fnOf "_law_added" "_law_added" (defArgs s_law_added) (defBody s_law_added) (defScope s_law_added) .none kV_law_added dc_law_added pm_law_added an_law_added cd_law_added ct_law_added), sl_law_added⟩) (c_law_added : PySem.W.codeIn K cd_law_added "_law_added" = true) (k_law_added : PySem.W.keepIn K (.ref f_law_added) = true)
    (a_law_listed : PySem.W.nsIn K mainGlobals "_law_listed" = some (some (.ref f_law_listed))) (l_law_listed : K.lookup f_law_listed = some ⟨oc_law_listed, od_law_listed, .func (PySem.W.fnOf "_law_listed" "_law_listed" (defArgs s_law_listed) (defBody s_law_listed) (defScope s_law_listed) .none kV_law_listed dc_law_listed pm_law_listed an_law_listed cd_law_listed ct_law_listed), sl_law_listed⟩) (c_law_listed : PySem.W.codeIn K cd_law_listed "_law_listed" = true) (k_law_listed : PySem.W.keepIn K (.ref f_law_listed) = true)
    (a_zero_sum : PySem.W.nsIn K mainGlobals "zero_sum" = some (some (.ref f_zero_sum))) (l_zero_sum : K.lookup f_zero_sum = some ⟨oc_zero_sum, od_zero_sum, .func (PySem.W.fnOf "zero_sum" "zero_sum" (defArgs s_zero_sum) (defBody s_zero_sum) (defScope s_zero_sum) .none kV_zero_sum dc_zero_sum pm_zero_sum an_zero_sum cd_zero_sum ct_zero_sum), sl_zero_sum⟩) (c_zero_sum : PySem.W.codeIn K cd_zero_sum "zero_sum" = true) (k_zero_sum : PySem.W.keepIn K (.ref f_zero_sum) = true)
    (a_law_kind : PySem.W.nsIn K mainGlobals "_law_kind" = some (some (.ref f_law_kind))) (l_law_kind : K.lookup f_law_kind = some ⟨oc_law_kind, od_law_kind, .func (PySem.W.fnOf "_law_kind" "_law_kind" (defArgs s_law_kind) (defBody s_law_kind) (defScope s_law_kind) .none kV_law_kind dc_law_kind pm_law_kind an_law_kind cd_law_kind ct_law_kind), sl_law_kind⟩) (c_law_kind : PySem.W.codeIn K cd_law_kind "_law_kind" = true) (k_law_kind : PySem.W.keepIn K (.ref f_law_kind) = true)
    (a_law_told : PySem.W.nsIn K mainGlobals "_law_told" = some (some (.ref f_law_told))) (l_law_told : K.lookup f_law_told = some ⟨oc_law_told, od_law_told, .func (PySem.W.fnOf "_law_told" "_law_told" (defArgs s_law_told) (defBody s_law_told) (defScope s_law_told) .none kV_law_told dc_law_told pm_law_told an_law_told cd_law_told ct_law_told), sl_law_told⟩) (c_law_told : PySem.W.codeIn K cd_law_told "_law_told" = true) (k_law_told : PySem.W.keepIn K (.ref f_law_told) = true)
    (a_law_refuses : PySem.W.nsIn K mainGlobals "_law_refuses" = some (some (.ref f_law_refuses))) (l_law_refuses : K.lookup f_law_refuses = some ⟨oc_law_refuses, od_law_refuses, .func (PySem.W.fnOf "_law_refuses" "_law_refuses" (defArgs s_law_refuses) (defBody s_law_refuses) (defScope s_law_refuses) .none kV_law_refuses dc_law_refuses pm_law_refuses an_law_refuses cd_law_refuses ct_law_refuses), sl_law_refuses⟩) (c_law_refuses : PySem.W.codeIn K cd_law_refuses "_law_refuses" = true) (k_law_refuses : PySem.W.keepIn K (.ref f_law_refuses) = true)
    (a_law : PySem.W.nsIn K mainGlobals "law" = some (some (.ref f_law))) (l_law : K.lookup f_law = some ⟨oc_law, od_law, .func (PySem.W.fnOf "law" "law" (defArgs s_law) (defBody s_law) (defScope s_law) .none kV_law dc_law pm_law an_law cd_law ct_law), sl_law⟩) (c_law : PySem.W.codeIn K cd_law "law" = true) (k_law : PySem.W.keepIn K (.ref f_law) = true)
    (zn_int : PySem.W.nsIn K mainGlobals "int" = some none)
    (zn_range : PySem.W.nsIn K mainGlobals "range" = some none)
    (zn_len : PySem.W.nsIn K mainGlobals "len" = some none)
    (zn_list : PySem.W.nsIn K mainGlobals "list" = some none)
    (zn_tuple : PySem.W.nsIn K mainGlobals "tuple" = some none)
    (zn_max : PySem.W.nsIn K mainGlobals "max" = some none)
    (zn_min : PySem.W.nsIn K mainGlobals "min" = some none)
    (zn_all : PySem.W.nsIn K mainGlobals "all" = some none)
    (zn_any : PySem.W.nsIn K mainGlobals "any" = some none)
    (zn_sorted : PySem.W.nsIn K mainGlobals "sorted" = some none)
    (zn_repr : PySem.W.nsIn K mainGlobals "repr" = some none)
    (zn_isinstance : PySem.W.nsIn K mainGlobals "isinstance" = some none)
    (zn_enumerate : PySem.W.nsIn K mainGlobals "enumerate" = some none)
    (zn_str : PySem.W.nsIn K mainGlobals "str" = some none)
    (zn_set : PySem.W.nsIn K mainGlobals "set" = some none)
    (zn_divmod : PySem.W.nsIn K mainGlobals "divmod" = some none)
    (zn_sum : PySem.W.nsIn K mainGlobals "sum" = some none)
    (zn_abs : PySem.W.nsIn K mainGlobals "abs" = some none)
    (zn_bool : PySem.W.nsIn K mainGlobals "bool" = some none)
    (zn_dict : PySem.W.nsIn K mainGlobals "dict" = some none)
    (n_gcd : PySem.W.nsIn K mainGlobals "gcd" = some (some (.builtin "math.gcd")))
    (n_PRIMES : PySem.W.nsIn K mainGlobals "PRIMES" = some (some (.ref aP)))
    (l_PRIMES : K.lookup aP = some ⟨.type "tuple", ddP, .seq #[.int 2 u2, .int 3 u3, .int 5 u5, .int 7 u7, .int 11 u11, .int 13 u13, .int 17 u17, .int 19 u19, .int 23 u23, .int 29 u29, .int 31 u31] nP, slP⟩)
    (n_NotWorld : PySem.W.nsIn K mainGlobals "NotWorld" = some (some (.ref CW)))
    (x_NotWorld : PySem.W.excIn K CW [.type "ValueError", .type "Exception", .type "BaseException", .type "object"] "ValueError.__new__" = true)
    (kc_NotWorld : PySem.W.keepIn K (.ref CW) = true)
    (bc_NotWorld : PySem.W.subIn K (.ref CW) (.type "BaseException") = some true)
    (tc_NotWorld : PySem.W.typeIn K (.ref CW) = some (.type "type"))
    (n_NotNumber : PySem.W.nsIn K mainGlobals "NotNumber" = some (some (.ref CN)))
    (x_NotNumber : PySem.W.excIn K CN [.type "ValueError", .type "Exception", .type "BaseException", .type "object"] "ValueError.__new__" = true)
    (kc_NotNumber : PySem.W.keepIn K (.ref CN) = true)
    (bc_NotNumber : PySem.W.subIn K (.ref CN) (.type "BaseException") = some true)
    (tc_NotNumber : PySem.W.typeIn K (.ref CN) = some (.type "type"))
    (n_BadNumber : PySem.W.nsIn K mainGlobals "BadNumber" = some (some (.ref CB)))
    (x_BadNumber : PySem.W.excIn K CB [.type "ValueError", .type "Exception", .type "BaseException", .type "object"] "ValueError.__new__" = true)
    (kc_BadNumber : PySem.W.keepIn K (.ref CB) = true)
    (bc_BadNumber : PySem.W.subIn K (.ref CB) (.type "BaseException") = some true)
    (tc_BadNumber : PySem.W.typeIn K (.ref CB) = some (.type "type"))
    (n_NotDiagram : PySem.W.nsIn K mainGlobals "NotDiagram" = some (some (.ref CD)))
    (x_NotDiagram : PySem.W.excIn K CD [.type "ValueError", .type "Exception", .type "BaseException", .type "object"] "ValueError.__new__" = true)
    (kc_NotDiagram : PySem.W.keepIn K (.ref CD) = true)
    (bc_NotDiagram : PySem.W.subIn K (.ref CD) (.type "BaseException") = some true)
    (tc_NotDiagram : PySem.W.typeIn K (.ref CD) = some (.type "type"))
    (n_TooLarge : PySem.W.nsIn K mainGlobals "TooLarge" = some (some (.ref CT)))
    (x_TooLarge : PySem.W.excIn K CT [.type "ValueError", .type "Exception", .type "BaseException", .type "object"] "ValueError.__new__" = true)
    (kc_TooLarge : PySem.W.keepIn K (.ref CT) = true)
    (bc_TooLarge : PySem.W.subIn K (.ref CT) (.type "BaseException") = some true)
    (tc_TooLarge : PySem.W.typeIn K (.ref CT) = some (.type "type"))
    (n_NotFamily : PySem.W.nsIn K mainGlobals "NotFamily" = some (some (.ref CF)))
    (x_NotFamily : PySem.W.excIn K CF [.type "ValueError", .type "Exception", .type "BaseException", .type "object"] "ValueError.__new__" = true)
    (kc_NotFamily : PySem.W.keepIn K (.ref CF) = true)
    (bc_NotFamily : PySem.W.subIn K (.ref CF) (.type "BaseException") = some true)
    (tc_NotFamily : PySem.W.typeIn K (.ref CF) = some (.type "type"))
    (ld_number : K.lookup dT_number = some ⟨.type "tuple", dd_number, .seq #[.int 1 un] nn_number, sd_number⟩)
    (n_MOST_ON_A_SIDE : PySem.W.nsIn K mainGlobals "MOST_ON_A_SIDE" = some (some (.int 8 tm_MOST_ON_A_SIDE)))
    (n_MOST_POINTS : PySem.W.nsIn K mainGlobals "MOST_POINTS" = some (some (.int 12 tm_MOST_POINTS)))
    (n_MOST_SUM_POINTS : PySem.W.nsIn K mainGlobals "MOST_SUM_POINTS" = some (some (.int 8 tm_MOST_SUM_POINTS)))
    (n_ZERO : PySem.W.nsIn K mainGlobals "ZERO" = some (some (.ref aZ)))
    (l_ZERO : K.lookup aZ = some ⟨.type "tuple", ddZ, .seq #[.int 0 uz1, .int 1 uz2] nZ, slZ⟩)
    (n_WorthError : PySem.W.nsIn K mainGlobals "WorthError" = some (some (.ref CE)))
    (ebc : PySem.W.subIn K (.ref CE) (.type "BaseException") = some true)
    (ehd : PySem.W.hasDictIn K CE = true)
    (ety : PySem.W.typeIn K (.ref CE) = some (.type "type"))
    (hn_cls : PySem.W.specialIn K (.builtin "object.__class__") "__get__" = some (some (.builtin "getset_descriptor.__get__")))
    (ht_cls : PySem.W.takesIn K (.builtin "object.__class__") = some true)
    (hg_NotWorld : PySem.W.findIn K (.ref CW) "__getattribute__" = some (some (.builtin "BaseException.__getattribute__")))
    (hk_NotWorld : PySem.W.findIn K (.ref CW) "__getattr__" = some none)
    (hd_NotWorld : PySem.W.hasDictIn K CW = true)
    (ha_NotWorld : PySem.W.findIn K (.ref CW) "__class__" = some (some (.builtin "object.__class__")))
    (hm_NotWorld : PySem.W.mroIn K CW (.type "object") = some true)
    (sE_NotWorld : PySem.W.subIn K (.ref CW) (.ref CE) = some true)
    (tE_NotWorld : PySem.W.kitOne K (.ref CW) (.ref CE) = some true)
    (t_NotWorld_NotWorld : PySem.W.kitOne K (.ref CW) (.ref CW) = some true)
    (t_NotWorld_NotFamily : PySem.W.kitOne K (.ref CW) (.ref CF) = some false)
    (t_NotWorld_NotDiagram : PySem.W.kitOne K (.ref CW) (.ref CD) = some false)
    (t_NotWorld_NotNumber : PySem.W.kitOne K (.ref CW) (.ref CN) = some false)
    (t_NotWorld_BadNumber : PySem.W.kitOne K (.ref CW) (.ref CB) = some false)
    (t_NotWorld_TooLarge : PySem.W.kitOne K (.ref CW) (.ref CT) = some false)
    (hg_NotDiagram : PySem.W.findIn K (.ref CD) "__getattribute__" = some (some (.builtin "BaseException.__getattribute__")))
    (hk_NotDiagram : PySem.W.findIn K (.ref CD) "__getattr__" = some none)
    (hd_NotDiagram : PySem.W.hasDictIn K CD = true)
    (ha_NotDiagram : PySem.W.findIn K (.ref CD) "__class__" = some (some (.builtin "object.__class__")))
    (hm_NotDiagram : PySem.W.mroIn K CD (.type "object") = some true)
    (sE_NotDiagram : PySem.W.subIn K (.ref CD) (.ref CE) = some true)
    (tE_NotDiagram : PySem.W.kitOne K (.ref CD) (.ref CE) = some true)
    (t_NotDiagram_NotWorld : PySem.W.kitOne K (.ref CD) (.ref CW) = some false)
    (t_NotDiagram_NotFamily : PySem.W.kitOne K (.ref CD) (.ref CF) = some false)
    (t_NotDiagram_NotDiagram : PySem.W.kitOne K (.ref CD) (.ref CD) = some true)
    (t_NotDiagram_NotNumber : PySem.W.kitOne K (.ref CD) (.ref CN) = some false)
    (t_NotDiagram_BadNumber : PySem.W.kitOne K (.ref CD) (.ref CB) = some false)
    (t_NotDiagram_TooLarge : PySem.W.kitOne K (.ref CD) (.ref CT) = some false)
    (hg_NotNumber : PySem.W.findIn K (.ref CN) "__getattribute__" = some (some (.builtin "BaseException.__getattribute__")))
    (hk_NotNumber : PySem.W.findIn K (.ref CN) "__getattr__" = some none)
    (hd_NotNumber : PySem.W.hasDictIn K CN = true)
    (ha_NotNumber : PySem.W.findIn K (.ref CN) "__class__" = some (some (.builtin "object.__class__")))
    (hm_NotNumber : PySem.W.mroIn K CN (.type "object") = some true)
    (sE_NotNumber : PySem.W.subIn K (.ref CN) (.ref CE) = some true)
    (tE_NotNumber : PySem.W.kitOne K (.ref CN) (.ref CE) = some true)
    (t_NotNumber_NotWorld : PySem.W.kitOne K (.ref CN) (.ref CW) = some false)
    (t_NotNumber_NotFamily : PySem.W.kitOne K (.ref CN) (.ref CF) = some false)
    (t_NotNumber_NotDiagram : PySem.W.kitOne K (.ref CN) (.ref CD) = some false)
    (t_NotNumber_NotNumber : PySem.W.kitOne K (.ref CN) (.ref CN) = some true)
    (t_NotNumber_BadNumber : PySem.W.kitOne K (.ref CN) (.ref CB) = some false)
    (t_NotNumber_TooLarge : PySem.W.kitOne K (.ref CN) (.ref CT) = some false)
    (hg_BadNumber : PySem.W.findIn K (.ref CB) "__getattribute__" = some (some (.builtin "BaseException.__getattribute__")))
    (hk_BadNumber : PySem.W.findIn K (.ref CB) "__getattr__" = some none)
    (hd_BadNumber : PySem.W.hasDictIn K CB = true)
    (ha_BadNumber : PySem.W.findIn K (.ref CB) "__class__" = some (some (.builtin "object.__class__")))
    (hm_BadNumber : PySem.W.mroIn K CB (.type "object") = some true)
    (sE_BadNumber : PySem.W.subIn K (.ref CB) (.ref CE) = some true)
    (tE_BadNumber : PySem.W.kitOne K (.ref CB) (.ref CE) = some true)
    (t_BadNumber_NotWorld : PySem.W.kitOne K (.ref CB) (.ref CW) = some false)
    (t_BadNumber_NotFamily : PySem.W.kitOne K (.ref CB) (.ref CF) = some false)
    (t_BadNumber_NotDiagram : PySem.W.kitOne K (.ref CB) (.ref CD) = some false)
    (t_BadNumber_NotNumber : PySem.W.kitOne K (.ref CB) (.ref CN) = some false)
    (t_BadNumber_BadNumber : PySem.W.kitOne K (.ref CB) (.ref CB) = some true)
    (t_BadNumber_TooLarge : PySem.W.kitOne K (.ref CB) (.ref CT) = some false)
    (n_Sum : PySem.W.nsIn K mainGlobals "Sum" = some (some (.ref CS)))
    (at_Sum_init : PySem.W.findIn K (.ref CS) "__init__" = some (some (.ref f_Sum_init)))
    (fn_Sum_init : PySem.W.isFn K (.ref f_Sum_init) = true)
    (at_Sum_terms : PySem.W.findIn K (.ref CS) "terms" = some (some (.ref f_Sum_terms)))
    (fn_Sum_terms : PySem.W.isFn K (.ref f_Sum_terms) = true)
    (at_Sum_at : PySem.W.findIn K (.ref CS) "at" = some (some (.ref f_Sum_at)))
    (fn_Sum_at : PySem.W.isFn K (.ref f_Sum_at) = true)
    (at_Sum_eq : PySem.W.findIn K (.ref CS) "__eq__" = some (some (.ref f_Sum_eq)))
    (fn_Sum_eq : PySem.W.isFn K (.ref f_Sum_eq) = true)
    (at_Sum_len : PySem.W.findIn K (.ref CS) "__len__" = some (some (.ref f_Sum_len)))
    (fn_Sum_len : PySem.W.isFn K (.ref f_Sum_len) = true)
    (at_Sum_bool : PySem.W.findIn K (.ref CS) "__bool__" = some (some (.ref f_Sum_bool)))
    (fn_Sum_bool : PySem.W.isFn K (.ref f_Sum_bool) = true)
    (pg_S : PySem.W.plainGet K CS Str.empty = true)
    (hd_S : PySem.W.hasDictIn K CS = true)
    (po_S : PySem.W.plainOver K CS = true)
    (sa_S : PySem.W.findIn K (.ref CS) "__setattr__" = some (some (.builtin "object.__setattr__")))
    (nw_S : PySem.W.findIn K (.ref CS) "world" = some none)
    (nn_S : PySem.W.findIn K (.ref CS) "n" = some none)
    (nm_S : PySem.W.findIn K (.ref CS) "m" = some none)
    (nk_S : PySem.W.findIn K (.ref CS) "_numbers" = some none)
    (mk_S : PySem.W.makesIn K CS = true)
    (kp_S : PySem.W.keepIn K (.ref CS) = true)
    (nf_Sum : PySem.W.notFirst K CS (.ref CS) = true)
    (ha_S : PySem.W.findIn K (.ref CS) "__class__" = some (some (.builtin "object.__class__")))
    (hm_S : PySem.W.mroIn K CS (.type "object") = some true)
    (me_S : PySem.W.kitOne K (.ref CS) (.ref CS) = some true)
    : ∃ fd : FuncData, (∀ (s : Shared) (v : Value), BindsTo s fd ⟨[v], []⟩ [("script", v)]) ∧ ∀ base : Heap, K.In base → base.Ns mainGlobals mg → FnG P w K mg base 12 fa fd ["script"] (spLaw K) := by
  have e := hfa.symm.trans (PySem.W.mg_of X G a_law)
  cases e
  have F_is_world := fun_mk (st := s_is_world) l_is_world c_is_world k_is_world
  have g_is_world := PySem.W.mg_of X G a_is_world
  have b_is_world := F_is_world.binds (ps := ["world"]) fun _ _ _ _ _ _ us hl => match us, hl with | [_], _ => rfl
  have F_law_number := fun_mk (st := s_law_number) l_law_number c_law_number k_law_number
  have g_law_number := PySem.W.mg_of X G a_law_number
  have b_law_number := F_law_number.binds (ps := ["cell"]) fun _ _ _ _ _ _ us hl => match us, hl with | [_], _ => rfl
  have F_law_next := fun_mk (st := s_law_next) l_law_next c_law_next k_law_next
  have g_law_next := PySem.W.mg_of X G a_law_next
  have b_law_next := F_law_next.binds (ps := ["draws"]) fun _ _ _ _ _ _ us hl => match us, hl with | [_], _ => rfl
  have F_law_draws := fun_mk (st := s_law_draws) l_law_draws c_law_draws k_law_draws
  have g_law_draws := PySem.W.mg_of X G a_law_draws
  have b_law_draws := F_law_draws.binds (ps := ["script"]) fun _ _ _ _ _ _ us hl => match us, hl with | [_], _ => rfl
  have F_check_world := fun_mk (st := s_check_world) l_check_world c_check_world k_check_world
  have g_check_world := PySem.W.mg_of X G a_check_world
  have b_check_world := F_check_world.binds (ps := ["world"]) fun _ _ _ _ _ _ us hl => match us, hl with | [_], _ => rfl
  have F_is_number := fun_mk (st := s_is_number) l_is_number c_is_number k_is_number
  have g_is_number := PySem.W.mg_of X G a_is_number
  have b_is_number := F_is_number.binds (ps := ["world", "x"]) fun _ _ _ _ _ _ us hl => match us, hl with | [_, _], _ => rfl
  have F_check_number := fun_mk (st := s_check_number) l_check_number c_check_number k_check_number
  have g_check_number := PySem.W.mg_of X G a_check_number
  have b_check_number := F_check_number.binds (ps := ["world", "x"]) fun _ _ _ _ _ _ us hl => match us, hl with | [_, _], _ => rfl
  have F_lowest_ := fun_mk (st := s_lowest_) l_lowest_ c_lowest_ k_lowest_
  have g_lowest_ := PySem.W.mg_of X G a_lowest_
  have b_lowest_ := F_lowest_.binds (ps := ["a", "b"]) fun _ _ _ _ _ _ us hl => match us, hl with | [_, _], _ => rfl
  have F_inverse_ := fun_mk (st := s_inverse_) l_inverse_ c_inverse_ k_inverse_
  have g_inverse_ := PySem.W.mg_of X G a_inverse_
  have b_inverse_ := F_inverse_.binds (ps := ["p", "b"]) fun _ _ _ _ _ _ us hl => match us, hl with | [_, _], _ => rfl
  have F_number : FunA K "number" "number" s_number f_number _ := ⟨⟨_, _, _, _, _, _, _, _, _, _, rfl, l_number, c_number⟩, k_number⟩
  have g_number := PySem.W.mg_of X G a_number
  have F_check_two_ := fun_mk (st := s_check_two_) l_check_two_ c_check_two_ k_check_two_
  have g_check_two_ := PySem.W.mg_of X G a_check_two_
  have b_check_two_ := F_check_two_.binds (ps := ["world", "x", "y"]) fun _ _ _ _ _ _ us hl => match us, hl with | [_, _, _], _ => rfl
  have F_plus := fun_mk (st := s_plus) l_plus c_plus k_plus
  have g_plus := PySem.W.mg_of X G a_plus
  have b_plus := F_plus.binds (ps := ["world", "x", "y"]) fun _ _ _ _ _ _ us hl => match us, hl with | [_, _, _], _ => rfl
  have F_is_size_ := fun_mk (st := s_is_size_) l_is_size_ c_is_size_ k_is_size_
  have g_is_size_ := PySem.W.mg_of X G a_is_size_
  have b_is_size_ := F_is_size_.binds (ps := ["n", "m"]) fun _ _ _ _ _ _ us hl => match us, hl with | [_, _], _ => rfl
  have F_check_size_ := fun_mk (st := s_check_size_) l_check_size_ c_check_size_ k_check_size_
  have g_check_size_ := PySem.W.mg_of X G a_check_size_
  have b_check_size_ := F_check_size_.binds (ps := ["n", "m"]) fun _ _ _ _ _ _ us hl => match us, hl with | [_, _], _ => rfl
  have F_is_diagram := fun_mk (st := s_is_diagram) l_is_diagram c_is_diagram k_is_diagram
  have g_is_diagram := PySem.W.mg_of X G a_is_diagram
  have b_is_diagram := F_is_diagram.binds (ps := ["diagram"]) fun _ _ _ _ _ _ us hl => match us, hl with | [_], _ => rfl
  have F_check_diagram := fun_mk (st := s_check_diagram) l_check_diagram c_check_diagram k_check_diagram
  have g_check_diagram := PySem.W.mg_of X G a_check_diagram
  have b_check_diagram := F_check_diagram.binds (ps := ["diagram"]) fun _ _ _ _ _ _ us hl => match us, hl with | [_], _ => rfl
  have F_labels := fun_mk (st := s_labels) l_labels c_labels k_labels
  have g_labels := PySem.W.mg_of X G a_labels
  have b_labels := F_labels.binds (ps := ["diagram"]) fun _ _ _ _ _ _ us hl => match us, hl with | [_], _ => rfl
  have F_law_marked := fun_mk (st := s_law_marked) l_law_marked c_law_marked k_law_marked
  have g_law_marked := PySem.W.mg_of X G a_law_marked
  have b_law_marked := F_law_marked.binds (ps := ["n", "m", "marks"]) fun _ _ _ _ _ _ us hl => match us, hl with | [_, _, _], _ => rfl
  have F_law_belongs := fun_mk (st := s_law_belongs) l_law_belongs c_law_belongs k_law_belongs
  have g_law_belongs := PySem.W.mg_of X G a_law_belongs
  have b_law_belongs := F_law_belongs.binds (ps := ["family", "diagram"]) fun _ _ _ _ _ _ us hl => match us, hl with | [_, _], _ => rfl
  have F_law_all := fun_mk (st := s_law_all) l_law_all c_law_all k_law_all
  have g_law_all := PySem.W.mg_of X G a_law_all
  have b_law_all := F_law_all.binds (ps := ["family", "n", "m"]) fun _ _ _ _ _ _ us hl => match us, hl with | [_, _, _], _ => rfl
  have F_law_marks := fun_mk (st := s_law_marks) l_law_marks c_law_marks k_law_marks
  have g_law_marks := PySem.W.mg_of X G a_law_marks
  have b_law_marks := F_law_marks.binds (ps := ["diagram"]) fun _ _ _ _ _ _ us hl => match us, hl with | [_], _ => rfl
  have F_law_world := fun_mk (st := s_law_world) l_law_world c_law_world k_law_world
  have g_law_world := PySem.W.mg_of X G a_law_world
  have b_law_world := F_law_world.binds (ps := ["draws"]) fun _ _ _ _ _ _ us hl => match us, hl with | [_], _ => rfl
  have F_check_sum_size := fun_mk (st := s_check_sum_size) l_check_sum_size c_check_sum_size k_check_sum_size
  have g_check_sum_size := PySem.W.mg_of X G a_check_sum_size
  have b_check_sum_size := F_check_sum_size.binds (ps := ["n", "m"]) fun _ _ _ _ _ _ us hl => match us, hl with | [_, _], _ => rfl
  have F_check_points_ := fun_mk (st := s_check_points_) l_check_points_ c_check_points_ k_check_points_
  have g_check_points_ := PySem.W.mg_of X G a_check_points_
  have b_check_points_ := F_check_points_.binds (ps := ["n", "m", "diagram"]) fun _ _ _ _ _ _ us hl => match us, hl with | [_, _, _], _ => rfl
  have F_Sum_init := fun_mk (st := s_Sum_init) l_Sum_init c_Sum_init k_Sum_init
  have b_Sum_init := F_Sum_init.binds (ps := ["self", "world", "n", "m", "terms"]) fun _ _ _ _ _ _ us hl => match us, hl with | [_, _, _, _, _], _ => rfl
  have F_Sum_terms := fun_mk (st := s_Sum_terms) l_Sum_terms c_Sum_terms k_Sum_terms
  have b_Sum_terms := F_Sum_terms.binds (ps := ["self"]) fun _ _ _ _ _ _ us hl => match us, hl with | [_], _ => rfl
  have F_Sum_at := fun_mk (st := s_Sum_at) l_Sum_at c_Sum_at k_Sum_at
  have b_Sum_at := F_Sum_at.binds (ps := ["self", "diagram"]) fun _ _ _ _ _ _ us hl => match us, hl with | [_, _], _ => rfl
  have F_Sum_len := fun_mk (st := s_Sum_len) l_Sum_len c_Sum_len k_Sum_len
  have b_Sum_len := F_Sum_len.binds (ps := ["self"]) fun _ _ _ _ _ _ us hl => match us, hl with | [_], _ => rfl
  have F_Sum_bool := fun_mk (st := s_Sum_bool) l_Sum_bool c_Sum_bool k_Sum_bool
  have b_Sum_bool := F_Sum_bool.binds (ps := ["self"]) fun _ _ _ _ _ _ us hl => match us, hl with | [_], _ => rfl
  have F_Sum_eq := fun_mk (st := s_Sum_eq) l_Sum_eq c_Sum_eq k_Sum_eq
  have b_Sum_eq := F_Sum_eq.binds (ps := ["self", "other"]) fun _ _ _ _ _ _ us hl => match us, hl with | [_, _], _ => rfl
  have F_law_lowest := fun_mk (st := s_law_lowest) l_law_lowest c_law_lowest k_law_lowest
  have g_law_lowest := PySem.W.mg_of X G a_law_lowest
  have b_law_lowest := F_law_lowest.binds (ps := ["a", "b"]) fun _ _ _ _ _ _ us hl => match us, hl with | [_, _], _ => rfl
  have F_law_value := fun_mk (st := s_law_value) l_law_value c_law_value k_law_value
  have g_law_value := PySem.W.mg_of X G a_law_value
  have b_law_value := F_law_value.binds (ps := ["draws", "world"]) fun _ _ _ _ _ _ us hl => match us, hl with | [_, _], _ => rfl
  have F_law_plus := fun_mk (st := s_law_plus) l_law_plus c_law_plus k_law_plus
  have g_law_plus := PySem.W.mg_of X G a_law_plus
  have b_law_plus := F_law_plus.binds (ps := ["world", "x", "y"]) fun _ _ _ _ _ _ us hl => match us, hl with | [_, _, _], _ => rfl
  have F_law_added := fun_mk (st := s_law_added) l_law_added c_law_added k_law_added
  have g_law_added := PySem.W.mg_of X G a_law_added
  have b_law_added := F_law_added.binds (ps := ["world", "terms", "diagram", "x"]) fun _ _ _ _ _ _ us hl => match us, hl with | [_, _, _, _], _ => rfl
  have F_law_listed := fun_mk (st := s_law_listed) l_law_listed c_law_listed k_law_listed
  have g_law_listed := PySem.W.mg_of X G a_law_listed
  have b_law_listed := F_law_listed.binds (ps := ["terms"]) fun _ _ _ _ _ _ us hl => match us, hl with | [_], _ => rfl
  have F_zero_sum := fun_mk (st := s_zero_sum) l_zero_sum c_zero_sum k_zero_sum
  have g_zero_sum := PySem.W.mg_of X G a_zero_sum
  have b_zero_sum := F_zero_sum.binds (ps := ["world", "n", "m"]) fun _ _ _ _ _ _ us hl => match us, hl with | [_, _, _], _ => rfl
  have F_law_kind := fun_mk (st := s_law_kind) l_law_kind c_law_kind k_law_kind
  have g_law_kind := PySem.W.mg_of X G a_law_kind
  have b_law_kind := F_law_kind.binds (ps := ["error"]) fun _ _ _ _ _ _ us hl => match us, hl with | [_], _ => rfl
  have F_law_told := fun_mk (st := s_law_told) l_law_told c_law_told k_law_told
  have g_law_told := PySem.W.mg_of X G a_law_told
  have b_law_told := F_law_told.binds (ps := ["world", "n", "m", "pairs"]) fun _ _ _ _ _ _ us hl => match us, hl with | [_, _, _, _], _ => rfl
  have F_law_refuses := fun_mk (st := s_law_refuses) l_law_refuses c_law_refuses k_law_refuses
  have g_law_refuses := PySem.W.mg_of X G a_law_refuses
  have b_law_refuses := F_law_refuses.binds (ps := ["world", "n", "m", "pairs"]) fun _ _ _ _ _ _ us hl => match us, hl with | [_, _, _, _], _ => rfl
  have F_law := fun_mk (st := s_law) l_law c_law k_law
  have g_law := PySem.W.mg_of X G a_law
  have b_law := F_law.binds (ps := ["script"]) fun _ _ _ _ _ _ us hl => match us, hl with | [_], _ => rfl
  have z_int := PySem.W.mg_none_of X G zn_int
  have z_range := PySem.W.mg_none_of X G zn_range
  have z_len := PySem.W.mg_none_of X G zn_len
  have z_list := PySem.W.mg_none_of X G zn_list
  have z_tuple := PySem.W.mg_none_of X G zn_tuple
  have z_max := PySem.W.mg_none_of X G zn_max
  have z_min := PySem.W.mg_none_of X G zn_min
  have z_all := PySem.W.mg_none_of X G zn_all
  have z_any := PySem.W.mg_none_of X G zn_any
  have z_sorted := PySem.W.mg_none_of X G zn_sorted
  have z_repr := PySem.W.mg_none_of X G zn_repr
  have z_isinstance := PySem.W.mg_none_of X G zn_isinstance
  have z_enumerate := PySem.W.mg_none_of X G zn_enumerate
  have z_str := PySem.W.mg_none_of X G zn_str
  have z_set := PySem.W.mg_none_of X G zn_set
  have z_divmod := PySem.W.mg_none_of X G zn_divmod
  have z_sum := PySem.W.mg_none_of X G zn_sum
  have z_abs := PySem.W.mg_none_of X G zn_abs
  have z_bool := PySem.W.mg_none_of X G zn_bool
  have z_dict := PySem.W.mg_none_of X G zn_dict
  have m_gcd := PySem.W.mg_of X G n_gcd
  have m_PRIMES := PySem.W.mg_of X G n_PRIMES
  have tP : ∀ H, SqT K H aP (primes.map V.int) := fun H => .inr ⟨_, _, _, l_PRIMES, rfl, rfl, (by show 11 ≤ sizeLine; decide), .cons ⟨_, rfl⟩ (.cons ⟨_, rfl⟩ (.cons ⟨_, rfl⟩ (.cons ⟨_, rfl⟩ (.cons ⟨_, rfl⟩ (.cons ⟨_, rfl⟩ (.cons ⟨_, rfl⟩ (.cons ⟨_, rfl⟩ (.cons ⟨_, rfl⟩ (.cons ⟨_, rfl⟩ (.cons ⟨_, rfl⟩ (.nil)))))))))))⟩
  have E_NotWorld : ErrC K mg "NotWorld" CW := ⟨PySem.W.mg_of X G n_NotWorld, x_NotWorld, kc_NotWorld, bc_NotWorld, tc_NotWorld⟩
  have E_NotNumber : ErrC K mg "NotNumber" CN := ⟨PySem.W.mg_of X G n_NotNumber, x_NotNumber, kc_NotNumber, bc_NotNumber, tc_NotNumber⟩
  have E_BadNumber : ErrC K mg "BadNumber" CB := ⟨PySem.W.mg_of X G n_BadNumber, x_BadNumber, kc_BadNumber, bc_BadNumber, tc_BadNumber⟩
  have E_NotDiagram : ErrC K mg "NotDiagram" CD := ⟨PySem.W.mg_of X G n_NotDiagram, x_NotDiagram, kc_NotDiagram, bc_NotDiagram, tc_NotDiagram⟩
  have E_TooLarge : ErrC K mg "TooLarge" CT := ⟨PySem.W.mg_of X G n_TooLarge, x_TooLarge, kc_TooLarge, bc_TooLarge, tc_TooLarge⟩
  have E_NotFamily : ErrC K mg "NotFamily" CF := ⟨PySem.W.mg_of X G n_NotFamily, x_NotFamily, kc_NotFamily, bc_NotFamily, tc_NotFamily⟩
  have b_number : Binds K (PySem.W.fnOf "number" "number" (defArgs s_number) (defBody s_number) (defScope s_number) (.ref dT_number) kV_number dc_number pm_number an_number cd_number ct_number) ["world", "a", "b"] [] := by
        obtain ⟨ds, hv, hb⟩ := FunD.binds1 (K := K) (kws := []) (dvs := [.int 1]) (ps := ["world", "a", "b"]) ⟨⟨_, _, _, _, _, _, _, _, _, _, rfl, l_number, c_number, .inr ⟨(fun z => nomatch z), dT_number, _, [_], _, rfl, ld_number, rfl, .cons ⟨_, rfl⟩ .nil⟩, .inl rfl⟩, k_number⟩ 3 1 (fun z => nomatch z) rfl
          (fun T kV doc pm an cdv ct us its hl hl2 => match us, its, hl, hl2 with | [_, _, _], [_], _, _ => ⟨_, rfl, rfl⟩)
        cases hv
        exact hb
  have m_MOST_ON_A_SIDE := PySem.W.mg_of X G n_MOST_ON_A_SIDE
  have m_MOST_POINTS := PySem.W.mg_of X G n_MOST_POINTS
  have m_MOST_SUM_POINTS := PySem.W.mg_of X G n_MOST_SUM_POINTS
  have m_ZERO := PySem.W.mg_of X G n_ZERO
  have tZ : ∀ H, SqT K H aZ [.int 0, .int 1] := fun H => .inr ⟨_, _, _, l_ZERO, rfl, rfl, (by show 2 ≤ sizeLine; decide), .cons ⟨_, rfl⟩ (.cons ⟨_, rfl⟩ .nil)⟩
  have m_WorthError := PySem.W.mg_of X G n_WorthError
  have m_NotWorld := PySem.W.mg_of X G n_NotWorld
  have m_NotFamily := PySem.W.mg_of X G n_NotFamily
  have m_NotDiagram := PySem.W.mg_of X G n_NotDiagram
  have m_NotNumber := PySem.W.mg_of X G n_NotNumber
  have m_BadNumber := PySem.W.mg_of X G n_BadNumber
  have m_TooLarge := PySem.W.mg_of X G n_TooLarge
  have I_NotWorld : ExcC K CW := ⟨hg_NotWorld, hk_NotWorld, bc_NotWorld, hd_NotWorld, ha_NotWorld, hn_cls, ht_cls, hm_NotWorld⟩
  have J_NotWorld : KindE K CE CW CF CD CN CB CT CW "world" := ⟨I_NotWorld, tE_NotWorld, by decide, t_NotWorld_NotWorld, t_NotWorld_NotFamily, t_NotWorld_NotDiagram, t_NotWorld_NotNumber, t_NotWorld_BadNumber, t_NotWorld_TooLarge⟩
  have I_NotDiagram : ExcC K CD := ⟨hg_NotDiagram, hk_NotDiagram, bc_NotDiagram, hd_NotDiagram, ha_NotDiagram, hn_cls, ht_cls, hm_NotDiagram⟩
  have J_NotDiagram : KindE K CE CW CF CD CN CB CT CD "diagram" := ⟨I_NotDiagram, tE_NotDiagram, by decide, t_NotDiagram_NotWorld, t_NotDiagram_NotFamily, t_NotDiagram_NotDiagram, t_NotDiagram_NotNumber, t_NotDiagram_BadNumber, t_NotDiagram_TooLarge⟩
  have I_NotNumber : ExcC K CN := ⟨hg_NotNumber, hk_NotNumber, bc_NotNumber, hd_NotNumber, ha_NotNumber, hn_cls, ht_cls, hm_NotNumber⟩
  have J_NotNumber : KindE K CE CW CF CD CN CB CT CN "value" := ⟨I_NotNumber, tE_NotNumber, by decide, t_NotNumber_NotWorld, t_NotNumber_NotFamily, t_NotNumber_NotDiagram, t_NotNumber_NotNumber, t_NotNumber_BadNumber, t_NotNumber_TooLarge⟩
  have I_BadNumber : ExcC K CB := ⟨hg_BadNumber, hk_BadNumber, bc_BadNumber, hd_BadNumber, ha_BadNumber, hn_cls, ht_cls, hm_BadNumber⟩
  have J_BadNumber : KindE K CE CW CF CD CN CB CT CB "number" := ⟨I_BadNumber, tE_BadNumber, by decide, t_BadNumber_NotWorld, t_BadNumber_NotFamily, t_BadNumber_NotDiagram, t_BadNumber_NotNumber, t_BadNumber_BadNumber, t_BadNumber_TooLarge⟩
  have T_told : ErrE K mg CE CW CF CD CN CB CT := ⟨PySem.W.mg_of X G n_WorthError, ebc, ehd, ety, sE_NotWorld, sE_NotDiagram, sE_NotNumber, sE_BadNumber, J_NotWorld, J_NotDiagram, J_NotNumber, J_BadNumber⟩
  have C_Sum : Cls K CS := ⟨pg_S, hd_S, po_S, sa_S⟩
  have S_Sum : SumC K mg CS := ⟨PySem.W.mg_of X G n_Sum, C_Sum, nw_S, nn_S, nm_S, nk_S⟩
  have M_Sum : Mk K CS f_Sum_init := ⟨mk_S, at_Sum_init, fn_Sum_init, kp_S⟩
  have h_Sum_terms : Meth K CS "terms" f_Sum_terms := ⟨at_Sum_terms, fn_Sum_terms, k_Sum_terms⟩
  have h_Sum_at : Meth K CS "at" f_Sum_at := ⟨at_Sum_at, fn_Sum_at, k_Sum_at⟩
  have O_len : OwnM K CS f_Sum_len "__len__" := ⟨at_Sum_len, fn_Sum_len⟩
  have O_bool : OwnM K CS f_Sum_bool "__bool__" := ⟨at_Sum_bool, fn_Sum_bool⟩
  have O_eq : OwnM K CS f_Sum_eq "__eq__" := ⟨at_Sum_eq, fn_Sum_eq⟩
  have I_Sum : C8.InsC K CS := ⟨C_Sum, ha_S, hn_cls, ht_cls, hm_S, me_S⟩
  refine ⟨PySem.W.fnOf "law" "law" (defArgs s_law) (defBody s_law) (defScope s_law) .none kV_law dc_law pm_law an_law cd_law ct_law, fun s v => .of_eq rfl, fun base _ _ => ?_⟩
  have G_is_world := ok_is_world (P := P) (w := w) (mg := mg) (base := base) (F := F_is_world) (m_PRIMES := m_PRIMES) (tP := tP)
  have G_law_number := ok_plain (P := P) (w := w) (mg := mg) (base := base) (F := F_law_number)
  have G_law_next := ok_next (P := P) (w := w) (mg := mg) (base := base) (F := F_law_next)
  have G_law_draws := ok_draws (P := P) (w := w) (mg := mg) (base := base) (F := F_law_draws) (z_range := z_range) (z_int := z_int) (G_law_number := G_law_number) (g_law_number := g_law_number) (k_law_number := k_law_number) (b_law_number := b_law_number)
  have G_check_world := ok_check_world (P := P) (w := w) (mg := mg) (base := base) (F := F_check_world) (T := E_NotWorld) (G_is_world := G_is_world) (g_is_world := g_is_world) (k_is_world := k_is_world) (b_is_world := b_is_world)
  have G_is_number := ok_is_number (P := P) (w := w) (mg := mg) (base := base) (F := F_is_number) (m_gcd := m_gcd) (G_check_world := G_check_world) (g_check_world := g_check_world) (k_check_world := k_check_world) (b_check_world := b_check_world)
  have G_check_number := ok_check_number (P := P) (w := w) (mg := mg) (base := base) (F := F_check_number) (T := E_NotNumber) (G_is_number := G_is_number) (g_is_number := g_is_number) (k_is_number := k_is_number) (b_is_number := b_is_number)
  have G_lowest_ := ok_lowest (P := P) (w := w) (mg := mg) (base := base) (F := F_lowest_) (m_gcd := m_gcd)
  have G_inverse_ := ok_inverse (P := P) (w := w) (mg := mg) (base := base) (F := F_inverse_)
  have G_number := ok_number (P := P) (w := w) (mg := mg) (base := base) (F := F_number) (T := E_BadNumber) (G_check_world := G_check_world) (g_check_world := g_check_world) (k_check_world := k_check_world) (b_check_world := b_check_world) (G_inverse_ := G_inverse_) (g_inverse_ := g_inverse_) (k_inverse_ := k_inverse_) (b_inverse_ := b_inverse_) (G_lowest_ := G_lowest_) (g_lowest_ := g_lowest_) (k_lowest_ := k_lowest_) (b_lowest_ := b_lowest_)
  have G_check_two_ := ok_check_two (P := P) (w := w) (mg := mg) (base := base) (F := F_check_two_) (G_check_number := G_check_number) (g_check_number := g_check_number) (k_check_number := k_check_number) (b_check_number := b_check_number)
  have G_plus := ok_plus (P := P) (w := w) (mg := mg) (base := base) (F := F_plus) (G_check_two_ := G_check_two_) (g_check_two_ := g_check_two_) (k_check_two_ := k_check_two_) (b_check_two_ := b_check_two_) (G_number := G_number) (g_number := g_number) (k_number := k_number) (b_number := b_number)
  have G_is_size_ := ok_is_size_ (P := P) (w := w) (mg := mg) (base := base) (F := F_is_size_) (m_MOST_ON_A_SIDE := m_MOST_ON_A_SIDE) (m_MOST_POINTS := m_MOST_POINTS)
  have G_check_size_ := ok_check_size_ (P := P) (w := w) (mg := mg) (base := base) (F := F_check_size_) (T := E_BadNumber) (G_is_size_ := G_is_size_) (g_is_size_ := g_is_size_) (k_is_size_ := k_is_size_) (b_is_size_ := b_is_size_)
  have G_is_diagram := ok_is_diagram (P := P) (w := w) (mg := mg) (base := base) (F := F_is_diagram) (z_len := z_len) (z_list := z_list) (z_range := z_range) (z_sorted := z_sorted) (z_all := z_all) (G_is_size_ := G_is_size_) (g_is_size_ := g_is_size_) (k_is_size_ := k_is_size_) (b_is_size_ := b_is_size_)
  have G_check_diagram := ok_check_diagram (P := P) (w := w) (mg := mg) (base := base) (F := F_check_diagram) (T := E_NotDiagram) (G_is_diagram := G_is_diagram) (g_is_diagram := g_is_diagram) (k_is_diagram := k_is_diagram) (b_is_diagram := b_is_diagram)
  have G_labels := ok_labels (P := P) (w := w) (mg := mg) (base := base) (F := F_labels) (z_enumerate := z_enumerate) (z_range := z_range) (G_check_diagram := G_check_diagram) (g_check_diagram := g_check_diagram) (k_check_diagram := k_check_diagram) (b_check_diagram := b_check_diagram)
  have G_law_marked := ok_law_marked (P := P) (w := w) (mg := mg) (base := base) (F := F_law_marked) (z_tuple := z_tuple) (z_range := z_range) (z_len := z_len)
  have G_law_belongs := ok_law_belongs (P := P) (w := w) (mg := mg) (base := base) (F := F_law_belongs) (z_len := z_len) (z_int := z_int)
  have G_law_all := ok_law_all (P := P) (w := w) (mg := mg) (base := base) (F := F_law_all) (z_range := z_range) (z_max := z_max) (G_law_marked := G_law_marked) (g_law_marked := g_law_marked) (k_law_marked := k_law_marked) (b_law_marked := b_law_marked) (G_law_belongs := G_law_belongs) (g_law_belongs := g_law_belongs) (k_law_belongs := k_law_belongs) (b_law_belongs := b_law_belongs)
  have G_law_marks := ok_law_marks (P := P) (w := w) (mg := mg) (base := base) (F := F_law_marks) (z_len := z_len) (z_range := z_range)
  have G_law_world := ok_law_world (P := P) (w := w) (mg := mg) (base := base) (F := F_law_world) (z_int := z_int) (G_law_next := G_law_next) (g_law_next := g_law_next) (k_law_next := k_law_next) (b_law_next := b_law_next)
  have G_check_sum_size := ok_check_sum_size (P := P) (w := w) (mg := mg) (base := base) (F := F_check_sum_size) (T := E_BadNumber) (m_MOST_SUM_POINTS := m_MOST_SUM_POINTS)
  have G_check_points_ := ok_check_points_ (P := P) (w := w) (mg := mg) (base := base) (F := F_check_points_) (T := E_BadNumber) (G_check_diagram := G_check_diagram) (g_check_diagram := g_check_diagram) (k_check_diagram := k_check_diagram) (b_check_diagram := b_check_diagram)
  have G_Sum_init := ok_Sum_init (P := P) (w := w) (mg := mg) (base := base) (F := F_Sum_init) (S_Sum := S_Sum) (m_ZERO := m_ZERO) (tZ := tZ) (z_sorted := z_sorted) (G_check_world := G_check_world) (g_check_world := g_check_world) (k_check_world := k_check_world) (b_check_world := b_check_world) (G_check_sum_size := G_check_sum_size) (g_check_sum_size := g_check_sum_size) (k_check_sum_size := k_check_sum_size) (b_check_sum_size := b_check_sum_size) (G_check_points_ := G_check_points_) (g_check_points_ := g_check_points_) (k_check_points_ := k_check_points_) (b_check_points_ := b_check_points_) (G_plus := G_plus) (g_plus := g_plus) (k_plus := k_plus) (b_plus := b_plus) (G_labels := G_labels) (g_labels := g_labels) (k_labels := k_labels) (b_labels := b_labels)
  have G_Sum_terms := ok_Sum_terms (P := P) (w := w) (mg := mg) (base := base) (F := F_Sum_terms) (S_Sum := S_Sum) (z_list := z_list)
  have G_Sum_at := ok_Sum_at (P := P) (w := w) (mg := mg) (base := base) (F := F_Sum_at) (S_Sum := S_Sum) (m_ZERO := m_ZERO) (tZ := tZ) (G_check_points_ := G_check_points_) (g_check_points_ := g_check_points_) (k_check_points_ := k_check_points_) (b_check_points_ := b_check_points_)
  have G_Sum_len := ok_Sum_len (P := P) (w := w) (mg := mg) (base := base) (F := F_Sum_len) (S_Sum := S_Sum) (z_len := z_len)
  have G_Sum_bool := ok_Sum_bool (P := P) (w := w) (mg := mg) (base := base) (F := F_Sum_bool) (S_Sum := S_Sum) (z_bool := z_bool)
  have G_Sum_eq := ok_Sum_eq (P := P) (w := w) (mg := mg) (base := base) (F := F_Sum_eq) (S_Sum := S_Sum) (I_Sum := I_Sum) (z_isinstance := z_isinstance)
  have G_law_lowest := ok_law_lowest (P := P) (w := w) (mg := mg) (base := base) (F := F_law_lowest) (z_abs := z_abs) (z_range := z_range) (z_int := z_int)
  have G_law_value := ok_law_value (P := P) (w := w) (mg := mg) (base := base) (F := F_law_value) (z_int := z_int) (G_law_next := G_law_next) (g_law_next := g_law_next) (k_law_next := k_law_next) (b_law_next := b_law_next) (G_law_lowest := G_law_lowest) (g_law_lowest := g_law_lowest) (k_law_lowest := k_law_lowest) (b_law_lowest := b_law_lowest)
  have G_law_plus := ok_law_plus (P := P) (w := w) (mg := mg) (base := base) (F := F_law_plus) (z_int := z_int) (G_law_lowest := G_law_lowest) (g_law_lowest := g_law_lowest) (k_law_lowest := k_law_lowest) (b_law_lowest := b_law_lowest)
  have G_law_added := ok_law_added (P := P) (w := w) (mg := mg) (base := base) (F := F_law_added) (z_dict := z_dict) (G_law_plus := G_law_plus) (g_law_plus := g_law_plus) (k_law_plus := k_law_plus) (b_law_plus := b_law_plus)
  have G_law_listed := ok_law_listed (P := P) (w := w) (mg := mg) (base := base) (F := F_law_listed) (z_sorted := z_sorted) (z_tuple := z_tuple) (G_law_marks := G_law_marks) (g_law_marks := g_law_marks) (k_law_marks := k_law_marks) (b_law_marks := b_law_marks) (G_law_marked := G_law_marked) (g_law_marked := g_law_marked) (k_law_marked := k_law_marked) (b_law_marked := b_law_marked)
  have G_zero_sum := ok_zero_sum (P := P) (w := w) (mg := mg) (base := base) (F := F_zero_sum) (S_Sum := S_Sum) (M_Sum := M_Sum) (G_Sum_init := G_Sum_init) (b_Sum_init := b_Sum_init)
  have G_law_kind := ok_law_kind (P := P) (w := w) (mg := mg) (base := base) (F := F_law_kind) (m_WorthError := m_WorthError) (m_NotWorld := m_NotWorld) (m_NotFamily := m_NotFamily) (m_NotDiagram := m_NotDiagram) (m_NotNumber := m_NotNumber) (m_BadNumber := m_BadNumber) (m_TooLarge := m_TooLarge) (z_isinstance := z_isinstance) (z_len := z_len)
  have G_law_told := ok_law_told (P := P) (w := w) (mg := mg) (base := base) (F := F_law_told) (T := T_told) (S_Sum := S_Sum) (M_Sum := M_Sum) (G_Sum_init := G_Sum_init) (b_Sum_init := b_Sum_init) (G_law_kind := G_law_kind) (g_law_kind := g_law_kind) (k_law_kind := k_law_kind) (b_law_kind := b_law_kind)
  have G_law_refuses := ok_law_refuses (P := P) (w := w) (mg := mg) (base := base) (F := F_law_refuses) (z_tuple := z_tuple) (z_range := z_range) (G_law_told := G_law_told) (g_law_told := g_law_told) (k_law_told := k_law_told) (b_law_told := b_law_told)
  exact ok_law (P := P) (w := w) (mg := mg) (base := base) (F := F_law) (z_int := z_int) (z_range := z_range) (z_repr := z_repr) (z_len := z_len) (z_min := z_min) (z_bool := z_bool) (z_list := z_list) (z_all := z_all) (S_Sum := S_Sum) (nf_Sum := nf_Sum) (G_Sum_init := G_Sum_init) (b_Sum_init := b_Sum_init) (G_Sum_terms := G_Sum_terms) (b_Sum_terms := b_Sum_terms) (G_Sum_at := G_Sum_at) (b_Sum_at := b_Sum_at) (G_Sum_len := G_Sum_len) (b_Sum_len := b_Sum_len) (G_Sum_bool := G_Sum_bool) (b_Sum_bool := b_Sum_bool) (G_Sum_eq := G_Sum_eq) (b_Sum_eq := b_Sum_eq) (M_Sum := M_Sum) (h_Sum_terms := h_Sum_terms) (h_Sum_at := h_Sum_at) (O_len := O_len) (O_bool := O_bool) (O_eq := O_eq) (G_law_draws := G_law_draws) (g_law_draws := g_law_draws) (k_law_draws := k_law_draws) (b_law_draws := b_law_draws) (G_law_next := G_law_next) (g_law_next := g_law_next) (k_law_next := k_law_next) (b_law_next := b_law_next) (G_law_world := G_law_world) (g_law_world := g_law_world) (k_law_world := k_law_world) (b_law_world := b_law_world) (G_law_all := G_law_all) (g_law_all := g_law_all) (k_law_all := k_law_all) (b_law_all := b_law_all) (G_law_value := G_law_value) (g_law_value := g_law_value) (k_law_value := k_law_value) (b_law_value := b_law_value) (G_law_added := G_law_added) (g_law_added := g_law_added) (k_law_added := k_law_added) (b_law_added := b_law_added) (G_law_listed := G_law_listed) (g_law_listed := g_law_listed) (k_law_listed := k_law_listed) (b_law_listed := b_law_listed) (G_zero_sum := G_zero_sum) (g_zero_sum := g_zero_sum) (k_zero_sum := k_zero_sum) (b_zero_sum := b_zero_sum) (G_law_refuses := G_law_refuses) (g_law_refuses := g_law_refuses) (k_law_refuses := k_law_refuses) (b_law_refuses := b_law_refuses)
end T
open PySem PySem.W PyProof.Rows
set_option maxHeartbeats 0 in
theorem PySem.Challenge.cw_threadworth_k32_sums_and_their_terms_holds : PySem.Challenge.rw_threadworth_k32_sums_and_their_terms.Holds := by
  w_on; o_law; k_head; (case hw => w_witness2)
  k_fill
  refine L2.walk_ofG (l := PySem.Challenge.rw_threadworth_k32_sums_and_their_terms) (n := 63) (k := 12) (x := "script") (sp := fun w => T.spLaw _) rfl (by decide) rfl ⟨rfl, by decide, by decide⟩ (fun w h Y => PySem.W.kIn_of Y) ?F (fun _ _ a ns hl hS => ⟨a, ns, rfl, hS, hl, fun _ => rfl⟩)
  case F =>
    intro w mg fa h KX G hmg
    refine' T.all_mk KX G hmg ?a_is_world ?l_is_world ?c_is_world ?k_is_world ?a_law_number ?l_law_number ?c_law_number ?k_law_number ?a_law_next ?l_law_next ?c_law_next ?k_law_next ?a_law_draws ?l_law_draws ?c_law_draws ?k_law_draws ?a_check_world ?l_check_world ?c_check_world ?k_check_world ?a_is_number ?l_is_number ?c_is_number ?k_is_number ?a_check_number ?l_check_number ?c_check_number ?k_check_number ?a_lowest_ ?l_lowest_ ?c_lowest_ ?k_lowest_ ?a_inverse_ ?l_inverse_ ?c_inverse_ ?k_inverse_ ?a_number ?l_number ?c_number ?k_number ?a_check_two_ ?l_check_two_ ?c_check_two_ ?k_check_two_ ?a_plus ?l_plus ?c_plus ?k_plus ?a_is_size_ ?l_is_size_ ?c_is_size_ ?k_is_size_ ?a_check_size_ ?l_check_size_ ?c_check_size_ ?k_check_size_ ?a_is_diagram ?l_is_diagram ?c_is_diagram ?k_is_diagram ?a_check_diagram ?l_check_diagram ?c_check_diagram ?k_check_diagram ?a_labels ?l_labels ?c_labels ?k_labels ?a_law_marked ?l_law_marked ?c_law_marked ?k_law_marked ?a_law_belongs ?l_law_belongs ?c_law_belongs ?k_law_belongs ?a_law_all ?l_law_all ?c_law_all ?k_law_all ?a_law_marks ?l_law_marks ?c_law_marks ?k_law_marks ?a_law_world ?l_law_world ?c_law_world ?k_law_world ?a_check_sum_size ?l_check_sum_size ?c_check_sum_size ?k_check_sum_size ?a_check_points_ ?l_check_points_ ?c_check_points_ ?k_check_points_ ?l_Sum_init ?c_Sum_init ?k_Sum_init ?l_Sum_terms ?c_Sum_terms ?k_Sum_terms ?l_Sum_at ?c_Sum_at ?k_Sum_at ?l_Sum_len ?c_Sum_len ?k_Sum_len ?l_Sum_bool ?c_Sum_bool ?k_Sum_bool ?l_Sum_eq ?c_Sum_eq ?k_Sum_eq ?a_law_lowest ?l_law_lowest ?c_law_lowest ?k_law_lowest ?a_law_value ?l_law_value ?c_law_value ?k_law_value ?a_law_plus ?l_law_plus ?c_law_plus ?k_law_plus ?a_law_added ?l_law_added ?c_law_added ?k_law_added ?a_law_listed ?l_law_listed ?c_law_listed ?k_law_listed ?a_zero_sum ?l_zero_sum ?c_zero_sum ?k_zero_sum ?a_law_kind ?l_law_kind ?c_law_kind ?k_law_kind ?a_law_told ?l_law_told ?c_law_told ?k_law_told ?a_law_refuses ?l_law_refuses ?c_law_refuses ?k_law_refuses ?a_law ?l_law ?c_law ?k_law ?zn_int ?zn_range ?zn_len ?zn_list ?zn_tuple ?zn_max ?zn_min ?zn_all ?zn_any ?zn_sorted ?zn_repr ?zn_isinstance ?zn_enumerate ?zn_str ?zn_set ?zn_divmod ?zn_sum ?zn_abs ?zn_bool ?zn_dict ?n_gcd ?n_PRIMES ?l_PRIMES ?n_NotWorld ?x_NotWorld ?kc_NotWorld ?bc_NotWorld ?tc_NotWorld ?n_NotNumber ?x_NotNumber ?kc_NotNumber ?bc_NotNumber ?tc_NotNumber ?n_BadNumber ?x_BadNumber ?kc_BadNumber ?bc_BadNumber ?tc_BadNumber ?n_NotDiagram ?x_NotDiagram ?kc_NotDiagram ?bc_NotDiagram ?tc_NotDiagram ?n_TooLarge ?x_TooLarge ?kc_TooLarge ?bc_TooLarge ?tc_TooLarge ?n_NotFamily ?x_NotFamily ?kc_NotFamily ?bc_NotFamily ?tc_NotFamily ?ld_number ?n_MOST_ON_A_SIDE ?n_MOST_POINTS ?n_MOST_SUM_POINTS ?n_ZERO ?l_ZERO ?n_WorthError ?ebc ?ehd ?ety ?hn_cls ?ht_cls ?hg_NotWorld ?hk_NotWorld ?hd_NotWorld ?ha_NotWorld ?hm_NotWorld ?sE_NotWorld ?tE_NotWorld ?t_NotWorld_NotWorld ?t_NotWorld_NotFamily ?t_NotWorld_NotDiagram ?t_NotWorld_NotNumber ?t_NotWorld_BadNumber ?t_NotWorld_TooLarge ?hg_NotDiagram ?hk_NotDiagram ?hd_NotDiagram ?ha_NotDiagram ?hm_NotDiagram ?sE_NotDiagram ?tE_NotDiagram ?t_NotDiagram_NotWorld ?t_NotDiagram_NotFamily ?t_NotDiagram_NotDiagram ?t_NotDiagram_NotNumber ?t_NotDiagram_BadNumber ?t_NotDiagram_TooLarge ?hg_NotNumber ?hk_NotNumber ?hd_NotNumber ?ha_NotNumber ?hm_NotNumber ?sE_NotNumber ?tE_NotNumber ?t_NotNumber_NotWorld ?t_NotNumber_NotFamily ?t_NotNumber_NotDiagram ?t_NotNumber_NotNumber ?t_NotNumber_BadNumber ?t_NotNumber_TooLarge ?hg_BadNumber ?hk_BadNumber ?hd_BadNumber ?ha_BadNumber ?hm_BadNumber ?sE_BadNumber ?tE_BadNumber ?t_BadNumber_NotWorld ?t_BadNumber_NotFamily ?t_BadNumber_NotDiagram ?t_BadNumber_NotNumber ?t_BadNumber_BadNumber ?t_BadNumber_TooLarge ?n_Sum ?at_Sum_init ?fn_Sum_init ?at_Sum_terms ?fn_Sum_terms ?at_Sum_at ?fn_Sum_at ?at_Sum_eq ?fn_Sum_eq ?at_Sum_len ?fn_Sum_len ?at_Sum_bool ?fn_Sum_bool ?pg_S ?hd_S ?po_S ?sa_S ?nw_S ?nn_S ?nm_S ?nk_S ?mk_S ?kp_S ?nf_Sum ?ha_S ?hm_S ?me_S
    (case a_is_world => k_is); (case l_is_world => k_is); (case c_is_world => k_is); (case k_is_world => k_is); (case a_law_number => k_is); (case l_law_number => k_is); (case c_law_number => k_is); (case k_law_number => k_is)
    (case a_law_next => k_is); (case l_law_next => k_is); (case c_law_next => k_is); (case k_law_next => k_is); (case a_law_draws => k_is); (case l_law_draws => k_is); (case c_law_draws => k_is); (case k_law_draws => k_is)
    (case a_check_world => k_is); (case l_check_world => k_is); (case c_check_world => k_is); (case k_check_world => k_is); (case a_is_number => k_is); (case l_is_number => k_is); (case c_is_number => k_is); (case k_is_number => k_is)
    (case a_check_number => k_is); (case l_check_number => k_is); (case c_check_number => k_is); (case k_check_number => k_is); (case a_lowest_ => k_is); (case l_lowest_ => k_is); (case c_lowest_ => k_is); (case k_lowest_ => k_is)
    (case a_inverse_ => k_is); (case l_inverse_ => k_is); (case c_inverse_ => k_is); (case k_inverse_ => k_is); (case a_number => k_is); (case l_number => k_is); (case c_number => k_is); (case k_number => k_is)
    (case a_check_two_ => k_is); (case l_check_two_ => k_is); (case c_check_two_ => k_is); (case k_check_two_ => k_is); (case a_plus => k_is); (case l_plus => k_is); (case c_plus => k_is); (case k_plus => k_is)
    (case a_is_size_ => k_is); (case l_is_size_ => k_is); (case c_is_size_ => k_is); (case k_is_size_ => k_is); (case a_check_size_ => k_is); (case l_check_size_ => k_is); (case c_check_size_ => k_is); (case k_check_size_ => k_is)
    (case a_is_diagram => k_is); (case l_is_diagram => k_is); (case c_is_diagram => k_is); (case k_is_diagram => k_is); (case a_check_diagram => k_is); (case l_check_diagram => k_is); (case c_check_diagram => k_is); (case k_check_diagram => k_is)
    (case a_labels => k_is); (case l_labels => k_is); (case c_labels => k_is); (case k_labels => k_is); (case a_law_marked => k_is); (case l_law_marked => k_is); (case c_law_marked => k_is); (case k_law_marked => k_is)
    (case a_law_belongs => k_is); (case l_law_belongs => k_is); (case c_law_belongs => k_is); (case k_law_belongs => k_is); (case a_law_all => k_is); (case l_law_all => k_is); (case c_law_all => k_is); (case k_law_all => k_is)
    (case a_law_marks => k_is); (case l_law_marks => k_is); (case c_law_marks => k_is); (case k_law_marks => k_is); (case a_law_world => k_is); (case l_law_world => k_is); (case c_law_world => k_is); (case k_law_world => k_is)
    (case a_check_sum_size => k_is); (case l_check_sum_size => k_is); (case c_check_sum_size => k_is); (case k_check_sum_size => k_is); (case a_check_points_ => k_is); (case l_check_points_ => k_is); (case c_check_points_ => k_is); (case k_check_points_ => k_is)
    (case a_law_lowest => k_is); (case l_law_lowest => k_is); (case c_law_lowest => k_is); (case k_law_lowest => k_is); (case a_law_value => k_is); (case l_law_value => k_is); (case c_law_value => k_is); (case k_law_value => k_is)
    (case a_law_plus => k_is); (case l_law_plus => k_is); (case c_law_plus => k_is); (case k_law_plus => k_is); (case a_law_added => k_is); (case l_law_added => k_is); (case c_law_added => k_is); (case k_law_added => k_is)
    (case a_law_listed => k_is); (case l_law_listed => k_is); (case c_law_listed => k_is); (case k_law_listed => k_is); (case a_zero_sum => k_is); (case l_zero_sum => k_is); (case c_zero_sum => k_is); (case k_zero_sum => k_is)
    (case a_law_kind => k_is); (case l_law_kind => k_is); (case c_law_kind => k_is); (case k_law_kind => k_is); (case a_law_told => k_is); (case l_law_told => k_is); (case c_law_told => k_is); (case k_law_told => k_is)
    (case a_law_refuses => k_is); (case l_law_refuses => k_is); (case c_law_refuses => k_is); (case k_law_refuses => k_is); (case a_law => k_is); (case l_law => k_is); (case c_law => k_is); (case k_law => k_is)
    (case zn_int => k_is); (case zn_range => k_is); (case zn_len => k_is); (case zn_list => k_is); (case zn_tuple => k_is); (case zn_max => k_is); (case zn_min => k_is); (case zn_all => k_is)
    (case zn_any => k_is); (case zn_sorted => k_is); (case zn_repr => k_is); (case zn_isinstance => k_is); (case zn_enumerate => k_is); (case zn_str => k_is); (case zn_set => k_is); (case zn_divmod => k_is)
    (case zn_sum => k_is); (case zn_abs => k_is); (case zn_bool => k_is); (case zn_dict => k_is); (case n_gcd => k_is); (case n_PRIMES => k_is); (case l_PRIMES => k_is); (case n_NotWorld => k_is)
    (case x_NotWorld => k_exc); (case kc_NotWorld => k_is); (case bc_NotWorld => k_is); (case tc_NotWorld => k_is); (case n_NotNumber => k_is); (case x_NotNumber => k_exc); (case kc_NotNumber => k_is); (case bc_NotNumber => k_is)
    (case tc_NotNumber => k_is); (case n_BadNumber => k_is); (case x_BadNumber => k_exc); (case kc_BadNumber => k_is); (case bc_BadNumber => k_is); (case tc_BadNumber => k_is); (case n_NotDiagram => k_is); (case x_NotDiagram => k_exc)
    (case kc_NotDiagram => k_is); (case bc_NotDiagram => k_is); (case tc_NotDiagram => k_is); (case n_TooLarge => k_is); (case x_TooLarge => k_exc); (case kc_TooLarge => k_is); (case bc_TooLarge => k_is); (case tc_TooLarge => k_is)
    (case n_NotFamily => k_is); (case x_NotFamily => k_exc); (case kc_NotFamily => k_is); (case bc_NotFamily => k_is); (case tc_NotFamily => k_is); (case ld_number => k_is); (case n_MOST_ON_A_SIDE => k_is); (case n_MOST_POINTS => k_is)
    (case n_MOST_SUM_POINTS => k_is); (case n_ZERO => k_is); (case l_ZERO => k_is); (case n_WorthError => k_is); (case ebc => k_is); (case ehd => k_is); (case ety => k_is); (case hn_cls => k_is)
    (case ht_cls => k_is); (case hg_NotWorld => k_is); (case hk_NotWorld => k_is); (case hd_NotWorld => k_is); (case ha_NotWorld => k_is); (case hm_NotWorld => k_is); (case sE_NotWorld => k_is); (case tE_NotWorld => kit_is)
    (case t_NotWorld_NotWorld => kit_is); (case t_NotWorld_NotFamily => kit_is); (case t_NotWorld_NotDiagram => kit_is); (case t_NotWorld_NotNumber => kit_is); (case t_NotWorld_BadNumber => kit_is); (case t_NotWorld_TooLarge => kit_is); (case hg_NotDiagram => k_is); (case hk_NotDiagram => k_is)
    (case hd_NotDiagram => k_is); (case ha_NotDiagram => k_is); (case hm_NotDiagram => k_is); (case sE_NotDiagram => k_is); (case tE_NotDiagram => kit_is); (case t_NotDiagram_NotWorld => kit_is); (case t_NotDiagram_NotFamily => kit_is); (case t_NotDiagram_NotDiagram => kit_is)
    (case t_NotDiagram_NotNumber => kit_is); (case t_NotDiagram_BadNumber => kit_is); (case t_NotDiagram_TooLarge => kit_is); (case hg_NotNumber => k_is); (case hk_NotNumber => k_is); (case hd_NotNumber => k_is); (case ha_NotNumber => k_is); (case hm_NotNumber => k_is)
    (case sE_NotNumber => k_is); (case tE_NotNumber => kit_is); (case t_NotNumber_NotWorld => kit_is); (case t_NotNumber_NotFamily => kit_is); (case t_NotNumber_NotDiagram => kit_is); (case t_NotNumber_NotNumber => kit_is); (case t_NotNumber_BadNumber => kit_is); (case t_NotNumber_TooLarge => kit_is)
    (case hg_BadNumber => k_is); (case hk_BadNumber => k_is); (case hd_BadNumber => k_is); (case ha_BadNumber => k_is); (case hm_BadNumber => k_is); (case sE_BadNumber => k_is); (case tE_BadNumber => kit_is); (case t_BadNumber_NotWorld => kit_is)
    (case t_BadNumber_NotFamily => kit_is); (case t_BadNumber_NotDiagram => kit_is); (case t_BadNumber_NotNumber => kit_is); (case t_BadNumber_BadNumber => kit_is); (case t_BadNumber_TooLarge => kit_is); (case n_Sum => k_is); (case at_Sum_terms => k_is); (case fn_Sum_terms => k_is)
    (case at_Sum_at => k_is); (case fn_Sum_at => k_is); (case at_Sum_eq => k_is); (case fn_Sum_eq => k_is); (case at_Sum_len => k_is); (case fn_Sum_len => k_is); (case at_Sum_bool => k_is); (case fn_Sum_bool => k_is)
    (case pg_S => k_is); (case hd_S => k_is); (case po_S => k_is); (case sa_S => k_is); (case nw_S => k_is); (case nn_S => k_is); (case nm_S => k_is); (case nk_S => k_is)
    (case mk_S => k_is); (case kp_S => k_is); (case nf_Sum => k_is); (case ha_S => k_is); (case hm_S => k_is); (case me_S => kit_is); (case at_Sum_init => k_is); (case fn_Sum_init => k_is)
    (case l_Sum_init => k_is); (case c_Sum_init => k_is); (case k_Sum_init => k_is); (case l_Sum_terms => k_is); (case c_Sum_terms => k_is); (case k_Sum_terms => k_is); (case l_Sum_at => k_is); (case c_Sum_at => k_is)
    (case k_Sum_at => k_is); (case l_Sum_len => k_is); (case c_Sum_len => k_is); (case k_Sum_len => k_is); (case l_Sum_bool => k_is); (case c_Sum_bool => k_is); (case k_Sum_bool => k_is); (case l_Sum_eq => k_is)
    (case c_Sum_eq => k_is); (case k_Sum_eq => k_is)
