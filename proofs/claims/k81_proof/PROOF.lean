import PyProof.Rows.All
import Wide.All
import OpenK.AllK
import Wide.FinOn
import PyProof.EqAt
import PyProof.EqKinds
import PyProof.TupleCall
import HandS.ForExc
import HandS.Comp
import HandS.Iter
import HandS.Gcd
import HandS.Wide
import HandS.Evl
import HandS.Defaults
import HandS.ExcIs
import HandS.TupAny
import HandS.TupMul
import HandS.Walk
import HandS.Rev
import HandS.TupAny
import HandS.TupMul
import HandS.Style
import HandS.Deep
import HandS.Dict
import HandS.ForMost
import HandS.Conv
import HandS.Sort
import HandS.SortInts
import HandS.NoneIn
import KE.DatumOrd
import HandS.IsInst
import HandS.TupSets
import HandS.DictTup
import PyProof.ReprRoads
import PyProof.ReprLen
import PyProof.CallFns
import PyProof.Rows.RegStrFacts
import HandS.List
import KE.LtData
import KE.KDictList
import KE.GoesMore
import KE.DataMinMax
import HandS.CallLocal
import KE.KMathGC
import HandS.SortKw
import HandS.HotCalls
import HandS.ExcCtx
import HandS.Words
import PyProof.Seq
import HandS.SetFor
import HandS.SortRule
import KE.SortData
import HandS.Text
import HandS.Strs
import KE.KDictKeyed
import KE.KeyNested
import KE.KDictDisplayH
import PySem.Challenge.RW_threadworth_k81_numbers_by_what_goes_thr
set_option Elab.async false
set_option linter.all false
set_option maxRecDepth 100000
set_option maxHeartbeats 4000000
namespace T
open PySem PySem.Spec PyProof.Rows L2
/-! ### the mathematics of worlds and numbers -/
def primes : List Int := [2, 3, 5, 7, 11, 13, 17, 19, 23, 29, 31]
def isW (p d : Int) : Bool := if p = 0 then (if -20 ≤ d then decide (d ≤ 20) else false) else (if inV (.int p) (primes.map V.int) = true then (if 0 ≤ d then decide (d < p) else false) else false)
theorem inV_ints {p : Int} : ∀ {l : List Int}, inV (.int p) (l.map V.int) = true → p ∈ l
  | [], h => by cases h
  | x :: l, h => by
    have h1 : ((eqV (.int x) (.int p)) || inV (.int p) (l.map V.int)) = true := h
    rcases (Bool.or_eq_true _ _).mp h1 with h | h
    · have : x = p := of_decide_eq_true (show decide (x = p) = true by simpa [eqV] using h)
      rw [this]
      exact List.mem_cons_self
    · exact List.mem_cons_of_mem _ (inV_ints h)
theorem isW_prime {p d : Int} (h : isW p d = true) (hp : p ≠ 0) : p ∈ primes ∧ 0 ≤ d ∧ d < p := by
  unfold isW at h
  rw [if_neg hp] at h
  by_cases e : inV (.int p) (primes.map V.int) = true
  · rw [if_pos e] at h
    by_cases e2 : 0 ≤ d
    · rw [if_pos e2] at h
      exact ⟨inV_ints e, e2, of_decide_eq_true h⟩
    · rw [if_neg e2] at h
      cases h
  · rw [if_neg e] at h
    cases h
theorem prime_pos {p : Int} (h : p ∈ primes) : 2 ≤ p ∧ p ≤ 31 := by
  simp only [primes, List.mem_cons, List.not_mem_nil, or_false] at h
  omega
theorem inv_exN : ∀ p ∈ [2, 3, 5, 7, 11, 13, 17, 19, 23, 29, 31], ∀ r, r < p → r ≠ 0 → ∃ k, k < p ∧ (k * r) % p = 1 := by decide +kernel
theorem inv_ex {p : Int} (hp : p ∈ primes) {r : Int} (h0 : 0 ≤ r) (h1 : r < p) (hr : r ≠ 0) : ∃ k : Int, 1 ≤ k ∧ k < p ∧ k * r % p = 1 := by
  obtain ⟨n, rfl⟩ := Int.eq_ofNat_of_zero_le (show 0 ≤ p by have := prime_pos hp; omega)
  obtain ⟨m, rfl⟩ := Int.eq_ofNat_of_zero_le h0
  have hn : n ∈ [2, 3, 5, 7, 11, 13, 17, 19, 23, 29, 31] := by
    simp only [primes, List.mem_cons, List.not_mem_nil, or_false] at hp ⊢
    omega
  obtain ⟨k, hk, e⟩ := inv_exN n hn m (by omega) (by omega)
  refine ⟨(k : Int), ?_, by omega, ?_⟩
  · rcases Nat.eq_zero_or_pos k with z | z
    · subst z
      rw [Nat.zero_mul, Nat.zero_mod] at e
      cases e
    · omega
  · have : ((k * m % n : Nat) : Int) = ((1 : Nat) : Int) := by rw [e]
    rw [← Int.natCast_mul, ← Int.natCast_emod, e]
    rfl
/-- lowest terms -/
def gI (a b : Int) : Int := ((Nat.gcd a.natAbs b.natAbs : Nat) : Int)
def low (a b : Int) : Int × Int := if b < 0 then ((-a) / gI a b, (-b) / gI a b) else (a / gI a b, b / gI a b)
theorem gI_pos {a b : Int} (hb : b ≠ 0) : 0 < gI a b := by
  have : 0 < Nat.gcd a.natAbs b.natAbs := Nat.gcd_pos_of_pos_right _ (by omega)
  unfold gI
  omega
theorem gI_le {a b : Int} (hb : b ≠ 0) : gI a b ≤ b.natAbs := by
  have := Nat.gcd_le_right (m := a.natAbs) (n := b.natAbs) (by omega)
  unfold gI
  omega
theorem fdiv_negg (a g : Int) (hg : 0 ≤ g) : a.fdiv (-g) = (-a) / g := by
  rw [← Int.fdiv_eq_ediv_of_nonneg _ hg, ← Int.neg_fdiv_neg (-a) g, Int.neg_neg]
/-- the number a / b -/
def bad (p b : Int) : Prop := b = 0 ∨ (0 < p ∧ b % p = 0)
def IsNum (p a b x y : Int) : Prop := (0 < p ∧ y = 1 ∧ 0 ≤ x ∧ x < p ∧ (x * b - a) % p = 0) ∨ (¬ 0 < p ∧ (x, y) = low a b)
theorem inv_solves {p a b k : Int} (hp : 0 < p) (e : k * (b % p) % p = 1) (h1 : 1 < p) : ((a * k % p) * b - a) % p = 0 := by
  have e1 : (k * b) % p = 1 := by
    rw [Int.mul_emod, Int.emod_emod_of_dvd _ (Int.dvd_refl p), ← Int.mul_emod] at e
    exact e
  have d1 : p ∣ k * b - 1 := by
    apply Int.dvd_of_emod_eq_zero
    rw [Int.sub_emod, e1, Int.emod_eq_of_lt (by omega) h1]
    simp
  have d2 : p ∣ a * k - a * k % p := Int.dvd_self_sub_emod
  apply Int.emod_eq_zero_of_dvd
  have : (a * k % p) * b - a = a * (k * b - 1) - (a * k - a * k % p) * b := by
    rw [Int.mul_sub, Int.sub_mul, Int.mul_assoc]
    omega
  rw [this]
  exact Int.dvd_sub (Int.dvd_mul_of_dvd_right d1) (Int.dvd_mul_of_dvd_left d2)
theorem num_unique {p a b x y x' y' : Int} (hp : p = 0 ∨ p ∈ primes) (hb : ¬ bad p b) (h : IsNum p a b x y) (h' : IsNum p a b x' y') : x = x' ∧ y = y' := by
  rcases h with ⟨h0, e1, l1, u1, m1⟩ | ⟨h0, e1⟩
  · rcases h' with ⟨_, e2, l2, u2, m2⟩ | ⟨h0', _⟩
    · refine ⟨?_, e1.trans e2.symm⟩
      rcases hp with rfl | hp
      · omega
      · have hp2 := prime_pos hp
        have hbp : b % p ≠ 0 := fun z => hb (.inr ⟨h0, z⟩)
        obtain ⟨k, k1, k2, ek⟩ := inv_ex hp (Int.emod_nonneg b (by omega)) (Int.emod_lt_of_pos b h0) hbp
        have e1 : (k * b) % p = 1 := by
          rw [Int.mul_emod, Int.emod_emod_of_dvd _ (Int.dvd_refl p), ← Int.mul_emod] at ek
          exact ek
        have d1 : p ∣ k * b - 1 := by
          apply Int.dvd_of_emod_eq_zero
          rw [Int.sub_emod, e1, Int.emod_eq_of_lt (show (0:Int) ≤ 1 by omega) (show (1:Int) < p by omega)]
          simp
        have d2 : p ∣ (x * b - a) - (x' * b - a) := Int.dvd_sub (Int.dvd_of_emod_eq_zero m1) (Int.dvd_of_emod_eq_zero m2)
        have d3 : p ∣ x - x' := by
          have e : x - x' = k * ((x * b - a) - (x' * b - a)) - (x - x') * (k * b - 1) := by
            have e3 : (x * b - a) - (x' * b - a) = (x - x') * b := by
              rw [Int.sub_mul]
              omega
            rw [e3, Int.mul_sub, Int.mul_one, ← Int.mul_assoc, Int.mul_comm k (x - x'), Int.mul_assoc]
            omega
          rw [e]
          exact Int.dvd_sub (Int.dvd_mul_of_dvd_right d2) (Int.dvd_mul_of_dvd_right d1)
        obtain ⟨c, ec⟩ := d3
        have hc : c = 0 := by
          rcases Int.lt_trichotomy c 0 with z | z | z
          · have : p * c ≤ p * (-1) := Int.mul_le_mul_of_nonneg_left (by omega) (by omega)
            omega
          · exact z
          · have : p * 1 ≤ p * c := Int.mul_le_mul_of_nonneg_left (by omega) (by omega)
            omega
        rw [hc, Int.mul_zero] at ec
        omega
    · exact absurd h0 h0'
  · rcases h' with ⟨h0', _⟩ | ⟨_, e2⟩
    · exact absurd h0' h0
    · have := e1.trans e2.symm
      exact ⟨congrArg Prod.fst this, congrArg Prod.snd this⟩
end T

/-! ### defs that are called where nothing is being shown (no repr is under way): what the law's own def may know -/
namespace L2
open PySem PySem.Spec PyProof.Rows
structure FnG (P : Program) (w : World) (K : PySem.W.Frag) (mg : Str → Option Value) (base : Heap) (k : Nat) (f : Addr) (fd : FuncData) (ps : List Str) (sp : Sp) : Prop where
  len : ∀ vs H Q E, sp vs H Q E → vs.length = ps.length
  run : ∀ (A : Around) (outer : List Env) (s : Shared) (H : Hp) (args : Args) (us : List Value) (vs : List V) (Q : VK) (E : XK), A.guards = some [] → Room k A → Env0 P w K mg base A outer s H →
    BindsTo s fd args (ps.zip us) → Vals vs us → sp vs H Q E → codeAny (model P w) A (.call (.ref f) args) (CR CX0 outer P w H s Q E) s
theorem CE_of {P : Program} {w : World} {K : PySem.W.Frag} {mg : Str → Option Value} {base : Heap} {N : List Str} {qual : Str} {scope : Scope} {f : Addr} {cdv : Value} {A : Around} {outer : List Env} {s s' : Shared} {H H' : Hp} {E : XK} {Q : VK} {σ' : St} {v : V} {u : Value}
    (J : Inv (cxOf CX0 P w K mg base N qual scope f cdv A outer s H E) [] σ' H' s') (rv : RelV v u) (q : Q v H') : CE outer P w H s Q u s' := ⟨v, H', J.os, J.bare, J.base, J.hok, rv, q⟩
theorem Fun.okG {P : Program} {w : World} {K : PySem.W.Frag} {mg : Str → Option Value} {base : Heap} {x qual : Str} {st : Stmt} {f : Addr} {fd : FuncData} {N ps : List Str} {k : Nat} {sp : Sp} (F : Fun K x qual st f fd) (S : FnScope N ps (defScope st))
    (len : ∀ vs H Q E, sp vs H Q E → vs.length = ps.length)
    (hbody : ∀ (cdv : Value) (A : Around) (outer : List Env) (s : Shared) (H : Hp) (vs : List V) (Q : VK) (E : XK), (A.deeper (envOfC qual (defScope st) s.heap.objs.size f cdv)).guards = some [] →
      Room k (A.deeper (envOfC qual (defScope st) s.heap.objs.size f cdv)) → sp vs H Q E →
      ∃ t, PSs (cxOf CX0 P w K mg base N qual (defScope st) f cdv A outer s H E).nox (defBody st) t ∧ t { nx := fun _ H' => Q .non H', rt := Q } (start N vs) H) : FnG P w K mg base (k + 1) f fd ps sp := by
  obtain ⟨oc, od, kV, doc, pm, an, cdv, ct, osl, rfl, lk, hcd⟩ := F.ex
  refine ⟨len, fun A outer s H args us vs Q E hgu hr e0 hb r hsp => ?_⟩
  have keep := fun b o (e : base.get? b = some o) => (e0.bs b o e).1
  have inK : K.In s.heap := e0.mod.kin.keeps keep
  refine codeAny_call_function hr.depth (inK _ _ lk) rfl S.co S.gen rfl (PySem.W.codeRec_of inK hcd) (hb _ _ _ _ ?_)
  refine wpAny_newFunctionEnv_cells S.kind (fun ⟨n, v⟩ hy => ?_) fun env he s1 xx => ?_
  · exact (S.par n (List.of_mem_zip hy).1).elim .inl fun q => .inr ⟨q, PySem.W.cellsFrom_some _ _ _ (.inl q)⟩
  · subst he
    refine ⟨(e0.mod.nolimit.keeps keep).keeps xx.toInCall.keep, codeAny_func ?_⟩
    obtain ⟨t, ht, hq⟩ := hbody cdv A outer s H vs Q E hgu (hr.deeper _) hsp
    have I := inv_start (CX := CX0) (E := E) S hr.hd e0 (len _ _ _ _ hsp) r xx
    refine wpAny_mono (ht.nox.run [] s1 _ H _ I hq) (fun fl s' hs => ?_) fun e s' hs => hs
    rcases fl with _ | _ | _ | u
    · obtain ⟨σ', H', J, q⟩ := hs
      exact CE_of (v := V.non) (u := Value.none) J rfl q
    · exact hs.elim fun _ z => z.elim fun _ z => z.2.elim
    · exact hs.elim fun _ z => z.elim fun _ z => z.2.elim
    · obtain ⟨v, σ', H', J, rv, q⟩ := hs
      exact CE_of J rv q
end L2

namespace L2
open PySem PySem.Spec PyProof.Rows
/-- the law's def, called by the claim's caller: nothing is being shown there -/
theorem goes_at {P : Program} {w : World} {K : PySem.W.Frag} {mg mb : Str → Option Value} {k : Nat} {fa a : Addr} {fd : FuncData} {x : Str} {sp : Sp} {t : Shared} {vs : List Value} {xs : List V} {H : Hp}
    (KX : K.In t.heap) (hns : t.heap.Ns mainGlobals mg) (hb : t.heap.Ns builtinsNs mb) (hbb : ∀ y : Str, y ≠ "__name__" → mb y = bootBuiltins y) (hlim : t.heap.NoLimit) (hg : t.gens = #[])
    (ha : t.heap.get? a = some { cls := .type "list", data := .seq vs.toArray }) (hr : Room k callerA)
    (F : ∀ base : Heap, K.In base → base.Ns mainGlobals mg → FnG P w K mg base k fa fd [x] sp) (hbind : ∀ (s : Shared) (u : Value), BindsTo s fd ⟨[u], []⟩ [(x, u)])
    (hO : Only H) (hsp : sp [.ref a] H (fun v _ => v = .bl true) fun _ _ _ => False) (hok : HOk P w H t.heap) (hA : ∀ b, H b ≠ none → b = a) (hK : H a ≠ none → K.lookup a = none) :
    codeAny (model P w) callerA (.call (.ref fa) ⟨[.ref a], []⟩) (fun r s' => r = .ok (.ret (.bool true)) ∧ OldK t.heap s'.heap ∧ s'.os = t.os ∧ AllBare s'.gens) t := by
  have free : ∀ {b : Addr}, (H b ≠ none → False) → H b = none := fun {b} z => by
    rcases e : H b with _ | u
    · rfl
    · exact (z (by rw [e]; exact fun q => nomatch q)).elim
  have ns : ∀ {b : Addr} {m : Str → Option Value}, t.heap.Ns b m → (hidT t.heap H).Ns b m := fun {b m} z => by
    obtain ⟨o, es, ep, e, d, r⟩ := z
    refine ⟨o, es, ep, hidT_get e (free fun z => ?_), d, r⟩
    rw [hA b z, ha] at e
    cases e
    cases d
  have inB : K.In (hidT t.heap H) := fun b o e => hidT_get (KX b o e) (free fun z => by
    have eb := hA b z
    rw [eb] at z e
    rw [hK z] at e
    cases e)
  obtain ⟨mc, l1, l2⟩ := hlim
  have env : Env0 P w K mg (hidT t.heap H) callerA [] t H := ⟨rfl, ⟨inB, ns hns, ⟨mb, ns hb, hbb⟩, ⟨mc, ns l1, l2⟩⟩, fun b o e => of_hidT e, Nat.le_of_eq (hidT_size _ _), trivial, fun b hb => (nomatch hb), hok, .of_eq hg⟩
  refine codeAny_mono ((F _ inB (ns hns)).run callerA [] t H _ [.ref a] [.ref a] _ _ rfl hr env (hbind t (.ref a)) (.cons rfl .nil) hsp) fun r s' h => ?_
  rcases r with e | fl
  · exact (show False from h).elim
  · rcases fl with _ | _ | _ | u
    · exact (show False from h).elim
    · exact (show False from h).elim
    · exact (show False from h).elim
    · obtain ⟨v, H', os, bare, un, hok', rv, q⟩ := h
      obtain rfl : v = .bl true := q
      obtain rfl : u = Value.bool true := rv
      refine ⟨rfl, OldK.of_keep fun b o e => ?_, os, bare⟩
      rcases hO b with z | ⟨ob, ys, z⟩
      · exact un.keep b o e z (fun z => nomatch z) (fun z => nomatch z)
      · have e1 := (hok b _ z).1
        rw [e] at e1
        rw [Option.some.inj e1]
        exact (hok' b _ (un.frzs b ob _ z)).1
theorem walk_ofG {l : PySem.W.OpenLaw} {n k : Nat} {q : Program} {loose : List Str} {XP : (Str → Option Value) → Heap → Prop} {YP : World → Heap → Prop} {d : DefRec} {K : Params → PySem.W.Frag} {sp : World → Sp} {x : Str}
    (hn : l.most = some n) (hn2 : n ≤ sizeLine) (hdf : d.params.defaults = []) (hr : Room k callerA) (hY : ∀ (w : World) (h : Heap), YP w h → (K w.params).In h)
    (F : ∀ (w : World) (mg : Str → Option Value) (fa : Addr) (h : Heap), (K w.params).In h → h.Ns mainGlobals mg → mg d.name = some (.ref fa) →
      ∃ fd : FuncData, (∀ (s : Shared) (u : Value), BindsTo s fd ⟨[u], []⟩ [(x, u)]) ∧ ∀ base : Heap, (K w.params).In base → base.Ns mainGlobals mg → FnG l.prog w (K w.params) mg base k fa fd [x] (sp w))
    (hsp : ∀ (w : World) (H : Hp) (a : Addr) (ns : List Int), ns.length ≤ n → SqL (K w.params) H a (ns.map V.int) → sp w [.ref a] H (fun v _ => v = .bl true) fun _ _ _ => False) :
    PySem.W.WalkO q loose XP YP l.row.toRowW d [] (fun f vs => PySem.call f vs) := by
  refine Att.attach_call hn hdf fun w s₀ t mg mb fa o pm cd doc a vs ns G Y ho hd hcd hmg hobj hints hlen hg => ?_
  have KX := hY w _ Y
  obtain ⟨fd, hb, hF⟩ := F w mg fa _ KX G.T.g hmg
  have rv : Vals (ns.map V.int) vs := vals_ints hints
  have lv := hints.length
  rcases hk : (K w.params).lookup a with _ | oa
  · refine goes_at (xs := ns.map V.int) (H := fun b => if b = a then some (.frz { cls := .type "list", data := .seq vs.toArray } (.lst (ns.map V.int))) else none) KX G.T.g G.T.b G.T.builtins G.T.nolimit hg hobj hr hF hb
      (fun b => ?_) (hsp w _ a ns hlen (.inl (.inr ⟨_, if_pos rfl⟩))) (fun b u z => ?_) (fun b z => Decidable.byContradiction fun c => z (if_neg c)) fun _ => hk
    · by_cases c : b = a
      · exact .inr ⟨_, _, if_pos c⟩
      · exact .inl (if_neg c)
    · by_cases c : b = a
      · have z' := (if_pos c).symm.trans z
        cases z'
        subst c
        exact ⟨hobj, by rw [List.length_map]; omega, vs, _, rv, hobj⟩
      · have z' := (if_neg c).symm.trans z
        cases z'
  · have e := (KX a oa hk).symm.trans hobj
    cases e
    exact goes_at (xs := ns.map V.int) (H := fun _ => none) KX G.T.g G.T.b G.T.builtins G.T.nolimit hg hobj hr hF hb (fun _ => .inl rfl)
      (hsp w _ a ns hlen (.inr ⟨_, vs.toArray, _, hk, rfl, rfl, rfl, by rw [List.size_toArray]; omega, rv⟩)) (fun b u z => nomatch z) (fun b z => (z rfl).elim) fun z => (z rfl).elim
end L2

namespace L2
open PySem PySem.Spec PyProof.Rows
/-! ### repr(data), where nothing is being shown -/
mutual
def wt : PyData → Nat
  | .none => 4
  | .bool _ => 5
  | .int _ => 1921
  | .str x => (reprText x).length
  | .list xs => wtAll xs + 3
  | .tuple xs => wtAll xs + 3
  | .dict _ => 0
def wtAll : List PyData → Nat
  | [] => 0
  | x :: xs => wt x + 2 + wtAll xs
end
mutual
theorem shown_wt : ∀ d : PyData, d.showable = true → d.hasDict = false → d.shown.length ≤ wt d
  | .none, _, _ => by simp only [PyData.shown, wt]; decide +kernel
  | .bool b, _, _ => by cases b <;> simp only [PyData.shown, wt] <;> decide +kernel
  | .int i, h, _ => by
    simp only [PyData.shown, wt]
    exact int_text_len_1921 (by simpa [PyData.showable] using h)
  | .str x, _, _ => by simp only [PyData.shown, wt]; exact Nat.le_refl _
  | .list xs, h, h2 => by
    simp only [PyData.showable] at h
    simp only [PyData.hasDict] at h2
    simp only [PyData.shown, wt]
    have h3 := shown_wtAll xs h h2
    have h4 := listText_len_le (PyData.shownAll xs)
    omega
  | .tuple xs, h, h2 => by
    simp only [PyData.showable] at h
    simp only [PyData.hasDict] at h2
    simp only [PyData.shown, wt]
    have h3 := shown_wtAll xs h h2
    have h4 := tupleText_len_le (PyData.shownAll xs)
    omega
  | .dict _, _, h2 => by simp [PyData.hasDict] at h2
theorem shown_wtAll : ∀ xs : List PyData, PyData.showableAll xs = true → PyData.hasDictAll xs = false → ((PyData.shownAll xs).map (·.length)).sum + 2 * (PyData.shownAll xs).length ≤ wtAll xs
  | [], _, _ => by simp [PyData.shownAll, wtAll]
  | x :: xs, h, h2 => by
    simp only [PyData.showableAll, Bool.and_eq_true] at h
    simp only [PyData.hasDictAll, Bool.or_eq_false_iff] at h2
    have h3 := shown_wt x h.1 h2.1
    have h4 := shown_wtAll xs h.2 h2.2
    simp only [PyData.shownAll, wtAll, List.map_cons, List.sum_cons, List.length_cons]
    omega
end
def rReprD (K : PySem.W.Frag) : List V → Hp → VK → Prop := fun xs H Q => ∃ x d, xs = [x] ∧ Dp K H x d ∧ SeqAt.shaped d = true ∧ d.showable = true ∧ wt d ≤ sizeLine ∧ Q (.str d.shown) H
theorem cr_reprD {X : Cx} (hg : X.A.guards = some []) (hu : X.A.units + 65 < cLine) : CallR X (.builtin "repr") (rReprD X.K) := by
  intro pins s σ H vs us Q I r h
  obtain ⟨x, d, rfl, hd, hs, hw, hz, q⟩ := h
  cases r with
  | cons rv rn =>
    rename_i v us'
    cases rn
    have hs' : (d.canLay0 && decide (d.depth ≤ 64)) = true := hs
    rw [Bool.and_eq_true] at hs'
    have nd := PyData.hasDict_of_canLay d hs'.1
    have dep : d.depth ≤ 64 := of_decide_eq_true hs'.2
    have sz := Nat.le_trans (shown_wt d hw nd) hz
    obtain ⟨as, rd⟩ := Dp.reads I d x v hd rv
    have ref : ∀ a : Addr, v = .ref a → wpAny (model X.prog X.w) X.A (call (.builtin "repr") [v]) (EP X pins σ Q) X.xe s := fun a e => by
      subst e
      exact repr_of_reads' rd hw (PyData.noDict_hsm nd) hg (by omega) (fun _ _ e => e) (fun h' u tk hk => ⟨.str _, H, I.kept (t' := tk) hk, ⟨u, rfl⟩, q⟩) sz
    cases hd with
    | non =>
      cases rv
      exact PySem.P.repr_of_none ⟨.str _, H, I.tok _, ⟨_, rfl⟩, by simpa only [PyData.shown] using q⟩
    | bl b =>
      cases rv
      exact PySem.P.repr_of_bool ⟨.str _, H, I.tok _, ⟨_, rfl⟩, by simpa only [PyData.shown] using q⟩
    | int i =>
      obtain ⟨t, rfl⟩ := rv
      exact PySem.P.repr_of_int (by simpa [PyData.showable] using hw) ⟨.str _, H, I.tok _, ⟨_, rfl⟩, by simpa only [PyData.shown] using q⟩
    | str y =>
      obtain ⟨t, rfl⟩ := rv
      exact PySem.P.repr_of_str ⟨.str _, H, I.tok _, ⟨_, rfl⟩, by simpa only [PyData.shown] using q⟩ (by simpa only [PyData.shown] using sz)
    | lst _ _ => exact ref _ rv
    | tup _ _ => exact ref _ rv
end L2

namespace T
/-! ### fractions -/
theorem low_pos {a : Int} {n : Nat} (hn : n ≠ 0) : low a (n : Int) = ((Rat.divInt a (n : Int)).num, ((Rat.divInt a (n : Int)).den : Int)) := by
  have e : Rat.divInt a (n : Int) = Rat.normalize a n hn := by
    show mkRat a n = _
    rw [Rat.mkRat_def, dif_neg hn]
  rw [e, Rat.normalize_eq]
  unfold low gI
  rw [if_neg (by omega), Int.natAbs_natCast]
  show (_, _) = (_, (((n / a.natAbs.gcd n : Nat)) : Int))
  rw [Int.natCast_ediv]
theorem low_rat {a b : Int} (hb : b ≠ 0) : low a b = ((Rat.divInt a b).num, ((Rat.divInt a b).den : Int)) := by
  by_cases c : 0 < b
  · obtain ⟨n, rfl⟩ := Int.eq_ofNat_of_zero_le (Int.le_of_lt c)
    exact low_pos (by omega)
  · obtain ⟨n, hn⟩ := Int.eq_ofNat_of_zero_le (show 0 ≤ -b by omega)
    have e : Rat.divInt a b = Rat.divInt (-a) (n : Int) := (Rat.divInt_eq_divInt_iff hb (by omega)).mpr (by rw [← hn, Int.mul_neg, Int.neg_mul])
    rw [e, ← low_pos (by omega), ← hn]
    unfold low gI
    rw [if_pos (by omega), if_neg (by omega), Int.natAbs_neg, Int.natAbs_neg]
theorem low_congr {a b a' b' : Int} (hb : b ≠ 0) (hb' : b' ≠ 0) (h : a * b' = a' * b) : low a b = low a' b' := by
  rw [low_rat hb, low_rat hb', (Rat.divInt_eq_divInt_iff hb hb').mpr h]
theorem low_q {a b u v : Int} (hb : b ≠ 0) (h : (u, v) = low a b) : Rat.divInt u v = Rat.divInt a b ∧ 0 < v := by
  rw [low_rat hb] at h
  have e1 : u = (Rat.divInt a b).num := congrArg Prod.fst h
  have e2 : v = ((Rat.divInt a b).den : Int) := congrArg Prod.snd h
  rw [e1, e2]
  exact ⟨Rat.num_divInt_den _, by have := (Rat.divInt a b).den_pos; omega⟩
theorem low_cross {a b u v : Int} (hb : b ≠ 0) (h : (u, v) = low a b) : u * b = a * v ∧ 0 < v := by
  obtain ⟨h1, h2⟩ := low_q hb h
  exact ⟨(Rat.divInt_eq_divInt_iff (by omega) hb).mp h1, h2⟩
/-- a number times a number: the parts may be reduced ahead or behind -/
theorem num_step {p A B u v a b u' v' : Int} (hp : p = 0 ∨ p ∈ primes) (hB : p = 0 → B ≠ 0) (hb0 : p = 0 → b ≠ 0) (hb1 : p ≠ 0 → b = 1) (hB1 : p ≠ 0 → B = 1) (h : IsNum p A B u v) (h' : IsNum p (u * a) (v * b) u' v') : IsNum p (A * a) (B * b) u' v' := by
  by_cases c : p = 0
  · obtain ⟨_, e⟩ := h.resolve_left (fun z => by omega)
    obtain ⟨_, e'⟩ := h'.resolve_left (fun z => by omega)
    obtain ⟨x1, x2⟩ := low_cross (hB c) e
    refine .inr ⟨by omega, e'.trans (low_congr (Int.mul_ne_zero (by omega) (hb0 c)) (Int.mul_ne_zero (hB c) (hb0 c)) ?_)⟩
    calc u * a * (B * b) = u * B * (a * b) := by rw [Int.mul_assoc, Int.mul_assoc]; congr 1; rw [← Int.mul_assoc, ← Int.mul_assoc, Int.mul_comm a B]
      _ = A * v * (a * b) := by rw [x1]
      _ = A * a * (v * b) := by rw [Int.mul_assoc, Int.mul_assoc]; congr 1; rw [← Int.mul_assoc, ← Int.mul_assoc, Int.mul_comm v a]
  · have hp2 := prime_pos (hp.resolve_left c)
    obtain ⟨h0, e1, l1, u1, m1⟩ := h.resolve_right (fun z => by omega)
    obtain ⟨_, e2, l2, u2, m2⟩ := h'.resolve_right (fun z => by omega)
    refine .inl ⟨h0, e2, l2, u2, ?_⟩
    rw [hB1 c, hb1 c]
    rw [hB1 c, Int.mul_one] at m1
    rw [hb1 c, e1] at m2
    have d1 := Int.dvd_of_emod_eq_zero m1
    have d2 := Int.dvd_of_emod_eq_zero m2
    apply Int.emod_eq_zero_of_dvd
    have e : u' * (1 * 1) - A * a = (u' * (1 * 1) - u * a) + (u - A) * a := by
      rw [Int.sub_mul]
      omega
    rw [e]
    exact Int.dvd_add d2 (Int.dvd_mul_of_dvd_left d1)
theorem low_small {a b u v : Int} (h : (u, v) = low a b) : u.natAbs ≤ a.natAbs ∧ v.natAbs ≤ b.natAbs := by
  have e1 := congrArg Prod.fst h
  have e2 := congrArg Prod.snd h
  unfold low at e1 e2
  by_cases c : b < 0
  · rw [if_pos c] at e1 e2
    have f1 : u = (-a) / gI a b := e1
    have f2 : v = (-b) / gI a b := e2
    have g1 := Int.natAbs_ediv_le_natAbs (-a) (gI a b)
    have g2 := Int.natAbs_ediv_le_natAbs (-b) (gI a b)
    rw [f1, f2]
    omega
  · rw [if_neg c] at e1 e2
    have f1 : u = a / gI a b := e1
    have f2 : v = b / gI a b := e2
    have g1 := Int.natAbs_ediv_le_natAbs a (gI a b)
    have g2 := Int.natAbs_ediv_le_natAbs b (gI a b)
    rw [f1, f2]
    omega
theorem num_small {p a b u v : Int} (hp : p = 0 ∨ p ∈ primes) (h : IsNum p a b u v) (ha : a.natAbs < 2 ^ 199) (hb : b.natAbs < 2 ^ 199) : u.natAbs < 2 ^ 200 ∧ v.natAbs < 2 ^ 200 := by
  rcases h with ⟨h0, rfl, h1, h2, _⟩ | ⟨_, h⟩
  · have := prime_pos (hp.resolve_left (by omega))
    omega
  · have := low_small h
    omega
theorem isW_cases {p d : Int} (hw : isW p d = true) : (p = 0 ∨ p ∈ primes) ∧ d.natAbs ≤ 31 := by
  by_cases c : p = 0
  · refine ⟨.inl c, ?_⟩
    unfold isW at hw
    rw [if_pos c] at hw
    by_cases h1 : -20 ≤ d
    · rw [if_pos h1] at hw
      have := of_decide_eq_true hw
      omega
    · rw [if_neg h1] at hw
      cases hw
  · obtain ⟨h1, h2, h3⟩ := isW_prime hw c
    have := prime_pos h1
    exact ⟨.inr h1, by omega⟩
end T

namespace T
open PySem PySem.Spec PyProof.Rows L2
/-! ### lists of integers as polynomials -/
def co (l : List Int) (k : Nat) : Int := l.getD k 0
theorem co_ge {l : List Int} {k : Nat} (h : l.length ≤ k) : co l k = 0 := by
  unfold co
  rw [List.getD_eq_getElem?_getD, List.getElem?_eq_none h]
  rfl
theorem co_get {l : List Int} {k : Nat} (h : k < l.length) : l[k]? = some (co l k) := by
  unfold co
  rw [List.getD_eq_getElem?_getD, List.getElem?_eq_getElem h]
  rfl
theorem co_mem {l : List Int} {k : Nat} (h : k < l.length) : co l k ∈ l := by
  have e := co_get h
  exact List.mem_of_getElem? e
theorem at_co {l : List Int} {k : Nat} (h : k < l.length) : atI (l.map V.int) (k : Int) = some (.int (co l k)) := atI_nat (by rw [List.getElem?_map, co_get h]; rfl)
theorem at_end {l : List Int} (h : l ≠ []) : atI (l.map V.int) (-1) = some (.int (co l (l.length - 1))) := by
  have hl : 0 < l.length := List.length_pos_iff.mpr h
  have e : l.map V.int = (l.take (l.length - 1)).map V.int ++ [V.int (co l (l.length - 1))] := by
    have e1 : l = l.take (l.length - 1) ++ [co l (l.length - 1)] := by
      have := List.take_succ (l := l) (i := l.length - 1)
      rw [show l.length - 1 + 1 = l.length by omega, List.take_length, co_get (by omega)] at this
      exact this
    conv => lhs; rw [e1]
    rw [List.map_append]
    rfl
  rw [e]
  exact atI_last _ _
/-- no 0 at the end -/
def Pol (l : List Int) : Prop := l = [] ∨ co l (l.length - 1) ≠ 0
theorem pol_len {l m : List Int} (hm : Pol m) (h : ∀ k, co l k = co m k) : m.length ≤ l.length := by
  rcases hm with rfl | hm
  · exact Nat.zero_le _
  · rcases Nat.lt_or_ge l.length m.length with c | c
    · rw [← h, co_ge (by omega)] at hm
      exact absurd rfl hm
    · exact c
theorem pol_ext {l m : List Int} (hl : Pol l) (hm : Pol m) (h : ∀ k, co l k = co m k) : l = m := by
  have h1 := pol_len hm h
  have h2 := pol_len hl (fun k => (h k).symm)
  refine List.ext_getElem? fun k => ?_
  rcases Nat.lt_or_ge k l.length with c | c
  · rw [co_get c, co_get (by omega), h]
  · rw [List.getElem?_eq_none c, List.getElem?_eq_none (by omega)]
theorem co_take {l : List Int} {s k : Nat} (h : ∀ i, s ≤ i → co l i = 0) : co (l.take s) k = co l k := by
  rcases Nat.lt_or_ge k s with c | c
  · unfold co
    rw [List.getD_eq_getElem?_getD, List.getD_eq_getElem?_getD, List.getElem?_take_of_lt c]
  · rw [h k c, co_ge (by rw [List.length_take]; omega)]
theorem pol_take {l : List Int} {s : Nat} (hs : s ≤ l.length) (h : s = 0 ∨ co l (s - 1) ≠ 0) (hz : ∀ i, s ≤ i → co l i = 0) : Pol (l.take s) := by
  rcases h with rfl | h
  · exact .inl rfl
  · by_cases c : s = 0
    · rw [c]
      exact .inl rfl
    · refine .inr ?_
      rw [List.length_take, Nat.min_eq_left hs, co_take hz]
      exact h
theorem co_map {f : Int → Int} (h0 : f 0 = 0) (l : List Int) (k : Nat) : co (l.map f) k = f (co l k) := by
  rcases Nat.lt_or_ge k l.length with c | c
  · have := co_get c
    unfold co
    rw [List.getD_eq_getElem?_getD, List.getElem?_map, List.getD_eq_getElem?_getD, this]
    rfl
  · rw [co_ge (by rw [List.length_map]; omega), co_ge c, h0]
theorem co_set {l : List Int} {i : Nat} {v : Int} (k : Nat) (h : i < l.length) : co (l.set i v) k = if k = i then v else co l k := by
  unfold co
  rw [List.getD_eq_getElem?_getD, List.getElem?_set]
  by_cases c : i = k
  · rw [if_pos c, if_pos c.symm, if_pos (by omega)]
    rfl
  · rw [if_neg c, if_neg (fun z => c z.symm), List.getD_eq_getElem?_getD]
theorem co_zeros (n k : Nat) : co (List.replicate n 0) k = 0 := by
  unfold co
  rw [List.getD_eq_getElem?_getD, List.getElem?_replicate]
  split <;> rfl
theorem map_set (l : List Int) (i : Nat) (v : Int) : (l.map V.int).set i (V.int v) = (l.set i v).map V.int := List.map_set.symm
/-! the value -/
def ev (x : Int) : List Int → Int
  | [] => 0
  | a :: r => a + x * ev x r
theorem ev_append (x : Int) (l : List Int) (a : Int) : ev x (l ++ [a]) = ev x l + x ^ l.length * a := by
  induction l with
  | nil => show a + x * 0 = 0 + x ^ 0 * a; rw [Int.pow_zero]; grind
  | cons b r ih =>
    show b + x * ev x (r ++ [a]) = b + x * ev x r + x ^ (r.length + 1) * a
    rw [ih, Int.pow_succ]
    grind
theorem ev_take (x : Int) {l : List Int} {i : Nat} (h : i < l.length) : ev x (l.take (i + 1)) = ev x (l.take i) + co l i * x ^ i := by
  have e : l.take (i + 1) = l.take i ++ [co l i] := by rw [List.take_succ, co_get h]; rfl
  rw [e, ev_append, List.length_take, Nat.min_eq_left (by omega), Int.mul_comm]
theorem ev_drop (x : Int) {l : List Int} {i : Nat} (h : i < l.length) : ev x (l.drop i) = co l i + x * ev x (l.drop (i + 1)) := by
  rw [List.drop_eq_getElem_cons h]
  have := co_get h
  rw [List.getElem?_eq_getElem h] at this
  rw [Option.some.inj this]
  rfl
/-! the product: what is there behind i rows, and j entries of the next -/
def row (one other : List Int) (i k : Nat) : Int := if i ≤ k then co one i * co other (k - i) else 0
def conv (one other : List Int) : Nat → Nat → Int
  | 0, _ => 0
  | i + 1, k => conv one other i k + row one other i k
theorem conv_more (one other : List Int) (k : Nat) : ∀ i, one.length ≤ i → conv one other i k = conv one other one.length k
  | 0, h => by rw [show one.length = 0 by omega]
  | i + 1, h => by
    by_cases c : one.length = i + 1
    · rw [c]
    · show conv one other i k + row one other i k = _
      rw [conv_more one other k i (by omega)]
      unfold row
      rw [co_ge (l := one) (by omega)]
      split <;> simp
theorem conv_top (one other : List Int) {k : Nat} : ∀ i, i ≤ one.length → i + other.length ≤ k + 1 → conv one other i k = 0
  | 0, _, _ => rfl
  | i + 1, h, hk => by
    show conv one other i k + row one other i k = 0
    rw [conv_top one other i (by omega) (by omega)]
    unfold row
    rw [if_pos (by omega), co_ge (l := other) (by omega)]
    simp
theorem conv_zero (one : List Int) (k : Nat) : ∀ i, conv one [] i k = 0
  | 0 => rfl
  | i + 1 => by
    show conv one [] i k + row one [] i k = 0
    rw [conv_zero one k i]
    unfold row
    rw [show co [] (k - i) = 0 from co_ge (Nat.zero_le _)]
    split <;> simp
theorem rep0 : ∀ n : Nat, (List.replicate n [V.int 0]).flatten = (List.replicate n (0 : Int)).map V.int
  | 0 => rfl
  | n + 1 => by
    rw [List.replicate_succ, List.flatten_cons, rep0 n, List.replicate_succ, List.map_cons]
    rfl
theorem ixN_nat {n j : Nat} (h : j < n) : ixN n (j : Int) = some j := by
  unfold ixN
  rw [if_pos (by omega), if_pos (by omega)]
  rfl
end T

/-! ### tuple * n for n = 0 and n = 1 -/
namespace L2
open PySem PySem.Spec PyProof.Rows
theorem tuple_mulX (l : Addr) (items : Array Value) (n : Nat) (dd : Option Addr) (sl : Array (Option Value)) (x : Int) (u : Tok) (c0 : (decide (x < -(2 ^ 63)) || decide (x ≥ 2 ^ 63)) = false) (c1 : (items.isEmpty || x == 1) = true) :
    Meets (Builtin.«tuple.__mul__» ⟨[.ref l, .int x u], []⟩) (fun _ R s => s.heap.get? l = some { cls := .type "tuple", dict := dd, data := .seq items n, slots := sl } ∧ R (.ok (.ret (Value.ref l))) s) :=
  .of_wp fun prog w A R s h => by
    obtain ⟨hp, g, d, tk, os⟩ := s
    obtain ⟨hl, h⟩ := h
    have f1 := AutoSeq1.idx_int
    wp_walk using wpAny_loadPart' hl
    repeat (first
      | (refine wpAny_ite_false (decide_eq_false (by rw [c0]; exact Bool.false_ne_true)) ?_; wp_walk using wpAny_loadPart' hl)
      | (refine wpAny_ite_true (decide_eq_true c1) ?_; wp_walk using wpAny_loadPart' hl))
    exact ⟨_, rfl, h⟩
theorem tuple_mulZ (l : Addr) (items : Array Value) (n : Nat) (dd : Option Addr) (sl : Array (Option Value)) (x : Int) (u : Tok) (c0 : (decide (x < -(2 ^ 63)) || decide (x ≥ 2 ^ 63)) = false) (c1 : (items.isEmpty || x == 1) = false) (c2 : (decide (x ≤ 0) || items.isEmpty) = true) :
    Meets (Builtin.«tuple.__mul__» ⟨[.ref l, .int x u], []⟩) (fun _ R s => s.heap.get? l = some { cls := .type "tuple", dict := dd, data := .seq items n, slots := sl } ∧
      R (.ok (.ret (Value.ref s.heap.objs.size))) { s with heap := s.heap.push { cls := Value.type "tuple", data := Data.seq #[] }, toks := s.toks }) :=
  .of_wp fun prog w A R s h => by
    obtain ⟨hp, g, d, tk, os⟩ := s
    obtain ⟨hl, h⟩ := h
    have f1 := AutoSeq1.idx_int
    wp_walk using wpAny_loadPart' hl
    repeat (first
      | (refine wpAny_ite_false (decide_eq_false (by rw [c0]; exact Bool.false_ne_true)) ?_; wp_walk using wpAny_loadPart' hl)
      | (refine wpAny_ite_false (decide_eq_false (by rw [c1]; exact Bool.false_ne_true)) ?_; wp_walk using wpAny_loadPart' hl)
      | (refine wpAny_ite_true (decide_eq_true c2) ?_; wp_walk using wpAny_loadPart' hl))
    exact ⟨_, rfl, h⟩
def rRepA (K : PySem.W.Frag) : R2 := fun x y H Q => ∃ l k xs, x = .ref l ∧ y = .int k ∧ SqT K H l xs ∧ xs ≠ [] ∧ 0 ≤ k ∧ k ≤ 1000 ∧ xs.length ≤ 1000 ∧ (k = 1 → Q (.ref l) H) ∧ (k ≠ 1 → ∀ p, H p = none → Q (.ref p) (upd H p (.tup (List.replicate k.toNat xs).flatten)))
section
variable {X : Cx}
theorem op_repA : OpR X (binaryOp .Mult) (rRepA X.K) := by
  intro pins s σ H x y v u Q I rx ry h
  obtain ⟨l, k, xs, rfl, rfl, hT, hne, h1, h2, hz, q1, q⟩ := h
  by_cases big : 2 ≤ k
  · exact op_repT pins s σ H _ _ v u Q I rx ry ⟨l, k, xs, rfl, rfl, hT, hne, big, h2, hz, q (by omega)⟩
  cases rx
  obtain ⟨t, rfl⟩ := ry
  obtain ⟨its, r, ⟨⟨cls, dd, data, sl⟩, ho, hc, n, hd⟩, hs⟩ := I.tuple hT
  simp only at hc hd
  subst hc hd
  have hle : its.length = xs.length := r.length.symm
  have hn : its ≠ [] := fun e => hne (by
    rw [e] at hle
    exact List.eq_nil_of_length_eq_zero hle.symm)
  have hi : its.toArray.isEmpty = false := by
    cases its with
    | nil => exact absurd rfl hn
    | cons a b => rfl
  have c0 : (decide (k < -(2 ^ 63)) || decide (k ≥ 2 ^ 63)) = false := by
    rw [decide_eq_false (by omega), decide_eq_false (by omega)] <;> rfl
  by_cases one : k = 1
  · have c1 : (its.toArray.isEmpty || k == 1) = true := by
      rw [hi, Bool.false_or]
      exact beq_iff_eq.mpr one
    exact wpAny_binaryOp_repeat_ref (T := "tuple") (U := "int") (by decide) ⟨_, ho, rfl⟩ (fun s' => typeIs_int s' k t) noFill_tuple_mul F.fills_int_mul F.slot_int_rmul repeat_tuple F.slot_int_index.lookup
      (call_meets F.slot_int_rmul (typeIs_int s k t) F.entry_int_rmul (F.args_int_rmul_2 _ _) (int_rmul_tuple k t l its.toArray n dd sl)
        ⟨ho, rfl, ⟨_, ho, rfl⟩, call_meets F.slot_tuple_mul ⟨_, ho, rfl⟩ F.entry_tuple_mul (F.args_tuple_mul_2 _ _) (tuple_mulX l its.toArray n dd sl k t c0 c1) ⟨ho, ⟨.ref l, H, I, rfl, q1 one⟩⟩⟩)
  · have zero : k = 0 := by omega
    have c1 : (its.toArray.isEmpty || k == 1) = false := by
      rw [hi, Bool.false_or]
      exact beq_eq_false_iff_ne.mpr one
    have c2 : (decide (k ≤ 0) || its.toArray.isEmpty) = true := by
      rw [hi, Bool.or_false]
      exact decide_eq_true (by omega)
    refine wpAny_binaryOp_repeat_ref (T := "tuple") (U := "int") (by decide) ⟨_, ho, rfl⟩ (fun s' => typeIs_int s' k t) noFill_tuple_mul F.fills_int_mul F.slot_int_rmul repeat_tuple F.slot_int_index.lookup
      (call_meets F.slot_int_rmul (typeIs_int s k t) F.entry_int_rmul (F.args_int_rmul_2 _ _) (int_rmul_tuple k t l its.toArray n dd sl)
        ⟨ho, rfl, ⟨_, ho, rfl⟩, call_meets F.slot_tuple_mul ⟨_, ho, rfl⟩ F.entry_tuple_mul (F.args_tuple_mul_2 _ _) (tuple_mulZ l its.toArray n dd sl k t c0 c1 c2) ⟨ho, ?_⟩⟩)
    refine ⟨.ref s.heap.objs.size, _, I.laid (t' := s.toks) (o := .tup (List.replicate k.toNat xs).flatten) (fun b ob q => Heap.get?_push_of_some _ q) (Nat.le_refl _) ?_, rfl, q one _ (I.hok.fresh (Nat.le_refl _))⟩
    rw [zero]
    exact ⟨Nat.zero_le _, [], .nil, IsTup.new _ _⟩
end
end L2

/-! ### sorted(tuple of integers), x in tuple of tuples -/
namespace SrtO
open PySem PyProof.Rows Srt
section
variable {prog : Program} {w : World} {A : Around} {E : Value → Shared → Prop} {s : Shared}
theorem collect_tup {l : Addr} {vs : List Value} {Q : List Value → Shared → Prop} (hl : s.heap.IsTuple l vs.toArray)
    (h : Q vs { s with heap := (s.heap.push (seqObj "list" #[] 0)).update s.heap.objs.size (Obj.mapSeq (· ++ vs.toArray)) }) (hsz : vs.length ≤ sizeLine) :
    wpAny (model prog w) A (collect (.ref l)) Q E s := by
  obtain ⟨o, ho, hc, n, hd⟩ := id hl
  unfold collect
  refine wpAny_bind (wpAny_runValue (codeAny_builtin entry_proto_collect' ?_))
  show wpAny _ _ (do again (.builtin "list.__iadd__" ⟨[← newList [], .ref l], []⟩)) _ _ s
  refine wpAny_bind (wpAny_newList (wpAny_pure ⟨Code.quiet_builtin _ (by decide +kernel), codeAny_builtin entry_list_iadd' ?_⟩))
  show wpAny _ _ (Builtin.List.listExtendWith (.ref s.heap.objs.size) (.ref l) (.ref s.heap.objs.size)) _ _ { s with heap := s.heap.push (seqObj "list" #[] 0) }
  unfold Builtin.List.listExtendWith
  have ho' : (s.heap.push (seqObj "list" #[] 0)).get? l = some o := Heap.get?_push_of_some _ ho
  refine wpAny_bind (wpAny_typeOf (T := "tuple") ⟨o, ho', hc⟩ ?_)
  have ht : (Value.type "tuple" == Value.type "tuple") = true := by rfl
  rw [if_pos (by rw [ht]; simp)]
  refine wpAny_bind (listItems_at ho' hd ?_)
  refine wpAny_bind (listItems_at (xs := #[]) (n := 0) (Heap.get?_push_size _ rfl) rfl ?_)
  rw [if_neg (by simp)]
  refine wpAny_bind (listUpdate_at (xs := #[]) (n := 0) (Heap.get?_push_size _ rfl) rfl ?_ (Nat.zero_le _) (by show (#[] ++ vs.toArray).size ≤ sizeLine + 1; simp only [Array.size_append, List.size_toArray, List.length_nil]; omega))
  refine wpAny_pure ?_
  show wpAny (model prog w) A (do
      let o ← load s.heap.objs.size
      match o.data with
      | .seq xs _ => pure xs.toList
      | _ => unsupported "internal:collect") Q E { s with heap := (s.heap.push (seqObj "list" #[] 0)).update s.heap.objs.size (Obj.mapSeq (· ++ vs.toArray)) }
  refine wpAny_bind (wpAny_load (get?_update_seq (Heap.get?_push_size _ rfl) _) ?_)
  show wpAny _ _ (pure ((#[] : Array Value) ++ vs.toArray).toList) Q E _
  rw [show ((#[] : Array Value) ++ vs.toArray).toList = vs by simp]
  exact wpAny_pure h
theorem sorted_ordT {l : Addr} {vs : List Value} {ltv : Value → Value → Bool} {Q : Value → Shared → Prop} (O : Swo ltv) (hl : s.heap.IsTuple l vs.toArray) (hz : vs.length ≤ sizeLine)
    (hS : 2 ≤ vs.length → ∀ (h₁ : Heap) (a : Addr), h₁.get? a = some (seqObj "list" vs.toArray 0) → (∀ b o, s.heap.get? b = some o → b ≠ a ∧ h₁.get? b = some o) → SortableO prog w A.in1.in1 { s with heap := h₁ } a vs ltv)
    (h : ∀ out : List Value, Srtd ltv out → Stb ltv out vs → Q (.ref (s.heap.objs.size + 1)) { s with heap := sortedAll s.heap vs out.toArray }) :
    wpAny (model prog w) A (call (.builtin "sorted") [.ref l]) Q E s := by
  refine Calls.call_function_entry kind_sorted plain_sorted entry_sorted (args_sorted1 _) ?_
  unfold Builtin.«sorted»
  refine wpAny_bind (m := checkCount "sorted" 1 1 _) (wpAny_pure ?_)
  refine wpAny_bind (collect_tup hl ?_ hz)
  refine wpAny_bind (wpAny_newList ?_ hz)
  have hsz : ((s.heap.push (seqObj "list" #[] 0)).update s.heap.objs.size (Obj.mapSeq (· ++ vs.toArray))).objs.size = s.heap.objs.size + 1 := by
    rw [Heap.size_update, size_push']
  have hoL : (((s.heap.push (seqObj "list" #[] 0)).update s.heap.objs.size (Obj.mapSeq (· ++ vs.toArray))).push (seqObj "list" vs.toArray 0)).get? (s.heap.objs.size + 1) = some (seqObj "list" vs.toArray 0) := by
    rw [← hsz]; exact Heap.get?_push_size _ rfl
  have keep : ∀ b o, s.heap.get? b = some o → b ≠ s.heap.objs.size + 1 ∧ (((s.heap.push (seqObj "list" #[] 0)).update s.heap.objs.size (Obj.mapSeq (· ++ vs.toArray))).push (seqObj "list" vs.toArray 0)).get? b = some o := fun b o q => by
    have hlt : b < s.heap.objs.size := Heap.lt_size q
    refine ⟨Nat.ne_of_lt (Nat.lt_succ_of_lt hlt), Heap.get?_push_of_some _ ?_⟩
    rw [Heap.get?_update_ne _ _ _ _ (Nat.ne_of_lt hlt)]
    exact Heap.get?_push_of_some _ q
  show wpAny _ _ _ _ _ { s with heap := ((s.heap.push (seqObj "list" #[] 0)).update s.heap.objs.size (Obj.mapSeq (· ++ vs.toArray))).push (seqObj "list" vs.toArray 0) }
  rw [hsz]
  refine wpAny_bind (wpAny_holding (wpAny_call_entry slot_list_sort ⟨_, hoL, rfl⟩ entry_list_sort (list_sort_ord O hoL hz (fun h2 => hS h2 _ _ hoL keep) fun out hs hb => ⟨_, rfl, ?_⟩) (args_list_sort _)))
  exact wpAny_pure ⟨_, rfl, h out hs hb⟩
end
end SrtO
namespace L2
open PySem PySem.Spec PyProof.Rows
def rSortedIT (K : PySem.W.Frag) : List V → Hp → VK → Prop := fun vs H Q => ∃ (a : Addr) (ns : List Int), vs = [V.ref a] ∧ SqT K H a (ns.map V.int) ∧
  ∀ (ns' : List Int) (p : Addr), ns'.Perm ns → ns'.Pairwise (· ≤ ·) → H p = none → Q (.ref p) (upd H p (.lst (ns'.map V.int)))
def rInDT (K : PySem.W.Frag) : R2 := fun x y H Q => ∃ d ds, Dp K H x d ∧ Dp K H y (.tuple ds) ∧ SeqAt.shaped d = true ∧ SeqAt.shaped (.tuple ds) = true ∧ Q (.bl (ds.any fun z => PyData.eqv z d)) H
section
variable {X : Cx}
theorem cr_sortedIT : CallR X (.builtin "sorted") (rSortedIT X.K) := by
  intro pins s σ H vs us Q I r h
  obtain ⟨a, ns, rfl, hs, q⟩ := h
  obtain ⟨its, rv, hl, hz⟩ := I.tuple hs
  rw [Vals.ref1 r]
  have hi := rv.ints
  refine SrtO.sorted_ordT SrtO.swo_int hl (by rw [← rv.length]; exact hz) (fun h2 h₁ a' _ _ => SrtO.ints_sortable hi h2) fun out h1 h2 => ?_
  obtain ⟨k1, k2, k3⟩ := SrtO.ints_out hi h1 h2
  obtain ⟨ep, he'⟩ := PyProof.Rows.sortedAll_at s.heap its out.toArray
  have hlen : ((out.map SrtO.iv).map V.int).length ≤ sizeLine := by
    rw [List.length_map, k2.length_eq]
    rw [List.length_map] at hz
    exact hz
  exact ⟨.ref _, upd H (s.heap.objs.size + 1) (.lst ((out.map SrtO.iv).map V.int)), I.laid (t' := s.toks) (fun _ _ => PyProof.Rows.sortedAll_old) (Nat.le_succ _) ⟨hlen, out, ep, vals_of_ints k1, he'⟩, rfl, q _ _ k2 k3 (I.hok.fresh (Nat.le_succ _))⟩
theorem op_inDT (hu : X.A.units + 65 < cLine) : OpR X (compareOp .In) (rInDT X.K) := by
  intro pins s σ H x y v u Q I rx ry h
  obtain ⟨d, ds, hd, he, sd, se, q⟩ := h
  obtain ⟨as, r1⟩ := Dp.reads I d x v hd rx
  obtain ⟨bs, r2⟩ := Dp.reads I (.tuple ds) y u he ry
  exact SeqAt.in_tuple_reads r2 r1 (SeqAt.canLay_of_shaped se) (SeqAt.canLay_of_shaped sd) (room_in_shaped sd hu) ⟨.bl _, H, I, rfl, q⟩
end
end L2

/-! ### tuple[::-1], nested data by <, x not in range(..) -/
namespace HT
open PySem PySem.Spec PyProof.Rows
section
variable {prog : Program} {w : World} {A : Around} {E : Value → Shared → Prop} {s : Shared}
theorem sliceApplied_rev {sl : Addr} {vl vu vs : Value} {n : Nat} {Q : Int × Int × Nat → Shared → Prop} (hs : s.heap.IsSliceOf sl vl vu vs) (pl : IsPart vl none) (pu : IsPart vu none) (ps : IsPart vs (some (-1)))
    (h : Q ((n : Int) - 1, -1, n) s) : wpAny (model prog w) A (Builtin.Slice.sliceApplied (.ref sl) (pure (n : Int))) Q E s := by
  obtain ⟨os, hos, hcs, hds⟩ := id hs
  unfold Builtin.Slice.sliceApplied Builtin.Slice.sliceFields
  refine wpAny_bind (wpAny_bind (wpAny_field hos hds (x := vl) rfl (wpAny_bind (wpAny_field hos hds (x := vu) rfl (wpAny_bind (wpAny_field hos hds (x := vs) rfl (wpAny_pure ?_)))))))
  refine wpAny_bind (slicePart_ ps ?_)
  show wpAny _ _ (if ((-1 : Int) == 0) = true then _ else _) _ _ s
  rw [if_neg (by decide)]
  refine wpAny_bind (slicePart_ pl (wpAny_bind (slicePart_ pu (wpAny_bind (wpAny_pure ?_)))))
  have e2 : Builtin.Slice.slicePlaces ((n : Int) - 1) (-1) (-1) = n := by
    unfold Builtin.Slice.slicePlaces
    rw [if_neg (by decide)]
    by_cases c : (n : Int) - 1 > -1
    · rw [if_pos c, show -(-1 : Int) = 1 from rfl, Int.ediv_one]
      omega
    · rw [if_neg c]
      omega
  show wpAny _ _ (pure (((n : Int) - 1), (-1 : Int), Builtin.Slice.slicePlaces ((n : Int) - 1) (-1) (-1))) _ _ s
  rw [e2]
  exact wpAny_pure h
theorem fm_some {α β : Type} {f : α → Option β} {g : α → β} : ∀ l : List α, (∀ k ∈ l, f k = some (g k)) → l.filterMap f = l.map g
  | [], _ => rfl
  | a :: l, h => by
    rw [List.filterMap_cons, h a List.mem_cons_self, List.map_cons, fm_some l fun k hk => h k (List.mem_cons_of_mem _ hk)]
theorem pick_rev (items : Array Value) : ((List.range items.size).filterMap fun (k : Nat) => items[((items.size : Int) - 1 + (k : Int) * (-1)).toNat]?).toArray = items.toList.reverse.toArray := by
  congr 1
  have hlt : ∀ k ∈ List.range items.size, k < items.size := fun k hk => List.mem_range.mp hk
  have e : ∀ k, k < items.size → items[((items.size : Int) - 1 + (k : Int) * (-1)).toNat]? = some (items.toList.reverse.getD k .none) := fun k hk => by
    rw [show ((items.size : Int) - 1 + (k : Int) * (-1)).toNat = items.size - 1 - k by omega, List.getD_eq_getElem?_getD, List.getElem?_reverse (by rw [Array.length_toList]; exact hk), Array.length_toList, Array.getElem?_toList]
    rw [Array.getElem?_eq_getElem (by omega)]
    rfl
  have e2 : ((List.range items.size).filterMap fun (k : Nat) => items[((items.size : Int) - 1 + (k : Int) * (-1)).toNat]?) = (List.range items.size).map fun k => items.toList.reverse.getD k .none := by
    exact fm_some _ fun k hk => e k (hlt k hk)
  rw [e2]
  refine List.ext_getElem (by rw [List.length_map, List.length_range, List.length_reverse, Array.length_toList]) fun i h1 h2 => ?_
  rw [List.getElem_map, List.getElem_range, List.getD_eq_getElem?_getD, List.getElem?_eq_getElem h2]
  rfl
theorem getItem_tuple_rev {t sl : Addr} {items : Array Value} {vl vu vs : Value} {Q : Value → Shared → Prop} (ht : IsTup s.heap t items) (hs : s.heap.IsSliceOf sl vl vu vs) (pl : IsPart vl none) (pu : IsPart vu none) (ps : IsPart vs (some (-1)))
    (h : Q (.ref s.heap.objs.size) { s with heap := s.heap.push { cls := .type "tuple", data := .seq items.toList.reverse.toArray } }) (hsz : items.size ≤ sizeLine) : wpAny (model prog w) A (getItem (.ref t) (.ref sl)) Q E s := by
  have htake : sizeOk (.seq items.toList.reverse.toArray) := by
    show items.toList.reverse.toArray.size ≤ sizeLine
    rw [List.size_toArray, List.length_reverse, Array.length_toList]
    exact hsz
  obtain ⟨os, hos, hcs, hds⟩ := id hs
  have hTs : s.TypeIs (.ref sl) "slice" := ⟨os, hos, hcs⟩
  unfold getItem
  try with_reducible refine wpAny_holding ?_
  first | refine wpAny_bind (wpAny_pure ?_) | skip
  refine wpAny_bind (wpAny_sequenceKey ht.typeIs (by decide) ?_)
  refine wpAny_bind (wpAny_callSpecial?_slot (name := Str.ofString "__getitem__") ht.typeIs PyProof.Rows.slot_tuple_getitem
    (wpAny_call_entry PyProof.Rows.slot_tuple_getitem ht.typeIs entry_tuple_getitem ?_ (args_tuple_getitem _ _)))
  show wpAny _ _ (Builtin.Tuple.tupleItemsOf (.ref t) >>= _) _ _ s
  refine wpAny_bind (tupleItemsOf_ ht ?_)
  refine wpAny_bind (wpAny_typeOf hTs ?_)
  rw [if_pos (by decide)]
  refine wpAny_bind (sliceApplied_rev hs pl pu ps ?_)
  have hno : ¬ ((((items.size : Int) - 1) == 0 && (-1 : Int) == 1 && items.size == items.size) = true) := by
    intro q
    rw [Bool.and_eq_true, Bool.and_eq_true] at q
    have q1 : (-1 : Int) = 1 := eq_of_beq q.1.2
    omega
  show wpAny _ _ (if (((items.size : Int) - 1) == 0 && (-1 : Int) == 1 && items.size == items.size) = true then _ else _) _ _ s
  rw [if_neg hno, pick_rev]
  first
    | exact wpAny_bind (m := Builtin.Tuple.tupleExact _) (wpAny_newObj_type (wpAny_pure ⟨_, rfl, wpAny_pure h⟩) htake)
    | exact wpAny_bind (m := Builtin.Tuple.tupleExact _) (wpAny_newObj_type (wpAny_bind (wpAny_pure (wpAny_pure ⟨_, rfl, wpAny_pure h⟩))) htake)
    | exact wpAny_bind (wpAny_bind (m := Builtin.Tuple.tupleExact _) (wpAny_newObj_type (wpAny_pure (wpAny_pure ⟨_, rfl, wpAny_pure h⟩)) htake))
    | exact wpAny_bind (wpAny_bind (m := Builtin.Tuple.tupleExact _) (wpAny_newObj_type (wpAny_pure ⟨_, rfl, wpAny_pure h⟩) htake))
end
end HT
namespace L2
open PySem PySem.Spec PyProof.Rows
def tRevT (K : PySem.W.Frag) (te : TE) : TE := fun σ H Q => te σ H fun x H1 => ∃ a xs, x = .ref a ∧ SqT K H1 a xs ∧ ∀ p, H1 p = none → Q (.ref p) (upd H1 p (.tup xs.reverse))
section
variable {X : Cx}
theorem pe_revT {e : Expr} {te : TE} {k : Nat} {p1 p2 p3 pos : Pos} {K : PySem.W.Frag} (hK : X.K = K) (he : PE X e te) : PE X (.Subscript e (.Slice none none (some (.UnaryOp .USub (.Constant (.int 1) k p1) p2)) p3) pos) (tRevT K te) := by
  subst hK
  refine ⟨fun pins s σ H Q I h => ?_⟩
  refine Subscript_ (thn (he.run pins s σ H _ I h) fun v s1 ⟨x, H1, I1, r1, q1⟩ => ?_)
  obtain ⟨a, xs, ex, hx, q⟩ := q1
  subst ex
  cases r1
  have hst : PO X (some (.UnaryOp .USub (.Constant (.int 1) k p1) p2)) (tPart (tUn (rU fun i => .int (-i)) (tC (.int 1)))) := po_some (pe_un un_neg pe_int)
  refine wpAny_Slice (thn (po_none.run pins s1 σ H1 (fun o H2 => o = none ∧ H2 = H1) I1 ⟨rfl, rfl⟩) fun vl s2 ⟨l, H2, I2, pl, el, e2⟩ => ?_)
  subst el e2
  refine thn (po_none.run pins s2 σ H2 (fun o H3 => o = none ∧ H3 = H2) I2 ⟨rfl, rfl⟩) fun vu s3 ⟨u, H3, I3, pu, eu, e3⟩ => ?_
  subst eu e3
  refine thn (hst.run pins s3 σ H3 (fun o H4 => o = some (-1) ∧ H4 = H3) I3 ⟨1, rfl, -1, rfl, rfl, rfl⟩) fun vs s4 ⟨o, H4, I4, ps, eo, e4⟩ => ?_
  subst eo e4
  have I5 : Inv X pins σ H4 { s4 with heap := s4.heap.push { cls := .type "slice", data := .fields #[vl, vu, vs] } } := I4.kept (t' := s4.toks) fun b ob q => Heap.get?_push_of_some _ q
  obtain ⟨its, r, ht, hz⟩ := I5.tuple hx
  have hlen := r.length
  show wpAny (model X.prog X.w) X.A (subscriptTail e (.Slice none none (some (.UnaryOp .USub (.Constant (.int 1) k p1) p2)) p3) (.ref a) (.ref s4.heap.objs.size)) (EP X pins σ Q) X.xe { s4 with heap := s4.heap.push { cls := .type "slice", data := .fields #[vl, vu, vs] } }
  refine tail_any (ops := [.ref a, .ref s4.heap.objs.size]) ht.typeIs (PyProof.Rows.slot_tuple_getitem.lookup) ?_ (by with_unfolding_all rfl)
  refine HT.getItem_tuple_rev ht (Heap.IsSliceOf.new _ vl vu vs) pl pu ps ?_ (by rw [List.size_toArray]; omega)
  refine ⟨.ref _, _, I5.laid (t' := s4.toks) (o := .tup xs.reverse) (fun b ob q => Heap.get?_push_of_some _ q) (Nat.le_refl _) ?_, rfl, q _ (I5.hok.fresh (Nat.le_refl _))⟩
  exact ⟨by rw [List.length_reverse]; exact hz, _, r.reverse, IsTup.new _ _⟩
/-- nested data of one shape -/
def rLtD (K : PySem.W.Frag) : R2 := fun x y H Q => ∃ d e, Dp K H x d ∧ Dp K H y e ∧ PySem.W.alike d e = true ∧ d ≠ .none ∧ d.depth ≤ 64 ∧ Q (.bl (PySem.W.dataLt d e)) H
theorem op_ltD (hu : X.A.units + 64 < cLine) : OpR X (compareOp .Lt) (rLtD X.K) := by
  intro pins s σ H x y v u Q I rx ry h
  obtain ⟨d, e, hd, he, al, nn, dep, q⟩ := h
  obtain ⟨as, r1⟩ := Dp.reads I d x v hd rx
  obtain ⟨bs, r2⟩ := Dp.reads I e y u he ry
  exact PySem.W.rcLt_alike d e X.A s v u as bs r1 r2 al nn (by have := Nat.min_le_left d.depth e.depth; omega) X.prog X.w _ _ ⟨.bl _, H, I, rfl, q⟩
theorem cr_range1 : CallR X (.type "range") (fun vs H Q => ∃ j, vs = [V.int j] ∧ ∀ p, H p = none → Q (.ref p) (upd H p (.rng 0 j))) := by
  intro pins s σ H vs us Q I r h
  obtain ⟨j, rfl, q⟩ := h
  obtain ⟨u1, rfl, rj⟩ : ∃ u1, us = [u1] ∧ RelV (.int j) u1 := by
    cases r with
    | cons r rr =>
      cases rr
      exact ⟨_, rfl, r⟩
  obtain ⟨u, rfl⟩ := rj
  refine call_range_1 ⟨.ref s.heap.objs.size, upd H s.heap.objs.size (.rng 0 j), I.laid (t' := s.toks + 1 + 1) (fun b o e => Heap.get?_push_of_some _ e) (Nat.le_refl _) ?_, rfl, q _ (I.hok.fresh (Nat.le_refl _))⟩
  exact ⟨s.toks, u, s.toks + 1, Heap.get?_push_size _ rfl⟩
theorem op_notIn_rng : OpR X (compareOp .NotIn) (fun x y H Q => ∃ i a lo hi, x = V.int i ∧ y = V.ref a ∧ H a = some (.rng lo hi) ∧ Q (.bl (!decide (lo ≤ i ∧ i < hi))) H) := by
  intro pins s σ H x y v u Q I rx ry h
  obtain ⟨i, a, lo, hi, rfl, rfl, ha, q⟩ := h
  obtain ⟨k, rfl⟩ := rx
  obtain rfl : u = Value.ref a := ry
  obtain ⟨t1, t2, t3, ho⟩ := I.hok a _ ha
  show wpAny _ _ (do return Value.bool (!(← contains (Value.ref a) (Value.int i k)))) _ _ s
  refine wpAny_bind (wpAny_contains_slot (T := "range") ⟨_, ho, rfl⟩ F.slot_range_contains (call_meets F.slot_range_contains ⟨_, ho, rfl⟩ F.entry_range_contains (F.args_range_contains_2 _ _) (q_contains a lo hi i t1 t2 t3 k)
    ⟨ho, wpAny_truthy_bool (wpAny_pure ⟨.bl _, H, I, rfl, ?_⟩)⟩))
  rw [place1]
  exact q
end
end L2

/-! ### tuple(d.values()) -/
namespace L2
open PySem PySem.Spec PyProof.Rows PySem.W
section
variable {prog : Program} {w : World} {A : Around} {E : Value → Shared → Prop} {s : Shared} {T : String} {r d : Addr} {n : Nat} {P : Nat → Value → Prop} {OK : Heap → Prop}
theorem collect_kdl {Q : List Value → Shared → Prop} (K : KdlSrc prog w T r d n P OK) (hh : A.handled = none) (hok : OK s.heap) (hn : n ≤ sizeLine)
    (hQ : ∀ (h' : Heap) (tk : Nat) (acc : Array Value), (∀ b o, s.heap.get? b = some o → h'.get? b = some o) → ItemsOf P acc n → Q acc.toList { s with heap := h', toks := tk }) :
    wpAny (model prog w) A (collect (.ref r)) Q E s := by
  have hlt := K.there _ hok
  unfold collect
  refine wpAny_bind (wpAny_runValue (codeAny_builtin F.entry_proto_collect ?_))
  rw [Around.under_plainId F.plain_proto_collect _]
  show wpAny _ A.in1 (newList [] >>= fun l => again (.builtin "list.__iadd__" ⟨[l, .ref r], []⟩)) _ _ s
  refine wpAny_bind (wpAny_newObj_type ?_)
  refine wpAny_pure ⟨plainId_quiet F.plain_list_iadd _, codeAny_builtin F.entry_list_iadd ?_⟩
  rw [Around.under_plainId F.plain_list_iadd _]
  show wpAny _ A.in1 (Builtin.List.listExtendWith (.ref s.heap.objs.size) (.ref r) (.ref s.heap.objs.size)) _ _ _
  have hS : (s.heap.push { cls := .type "list", data := .seq ([] : List Value).toArray }).get? s.heap.objs.size = some { cls := .type "list", data := .seq #[] 0 } := Heap.get?_push_size _ rfl
  refine wpAny_mono (kdl_extend (A := A) (R := fun rr s' => rr = .ok (.ret (.ref s.heap.objs.size)) ∧ ∃ (h' : Heap) (tk : Nat) (acc : Array Value) (c' : Nat), s' = { s with heap := h', toks := tk } ∧
      (∀ b o, s.heap.get? b = some o → h'.get? b = some o) ∧ h'.get? s.heap.objs.size = some { cls := .type "list", dict := none, data := .seq acc c', slots := #[] } ∧ ItemsOf P acc n)
    (s := { s with heap := s.heap.push { cls := .type "list", data := .seq ([] : List Value).toArray } }) K hh (K.keep _ _ hok fun b _ o e => Heap.get?_push_of_some _ e) _ (Nat.ne_of_gt hlt.1) (Nat.ne_of_gt hlt.2) _ 0 hS
    (fun h' tk acc c' hk e hi => ⟨rfl, h', tk, acc, c', rfl, fun b o q => hk b o (Nat.ne_of_lt (Heap.lt_size q)) (Heap.get?_push_of_some _ q), e, hi⟩) hn) (fun fin s' h => ?_) (fun e s' h => ?_)
  · cases fin with
    | done f =>
      obtain ⟨e, h', tk, acc, c', rfl, hk, hS', hi⟩ := h
      cases e
      show wpAny _ A (load s.heap.objs.size >>= _) _ _ _
      exact wpAny_bind (wpAny_load hS' (wpAny_pure (hQ h' tk acc hk hi)))
    | again c' =>
      refine ⟨h.1, codeAny_mono h.2 fun rr s'' hr' => ?_⟩
      obtain ⟨rfl, h', tk, acc, c', rfl, hk, hS', hi⟩ := hr'
      show wpAny _ A (load s.heap.objs.size >>= _) _ _ _
      exact wpAny_bind (wpAny_load hS' (wpAny_pure (hQ h' tk acc hk hi)))
  · exact absurd h.1 (by simp)
theorem code_tuple_new_kdl {Q₁ : Value → Shared → Prop} (K : KdlSrc prog w "dict_values" r d n P OK) (hh : A.handled = none) (hok : OK s.heap) (hn : n ≤ sizeLine)
    (h : ∀ (h' : Heap) (tk : Nat) (acc : Array Value), (∀ b o, s.heap.get? b = some o → h'.get? b = some o) → ItemsOf P acc n →
      Q₁ (.ref h'.objs.size) { s with heap := h'.push { cls := .type "tuple", data := .seq acc }, toks := tk }) :
    codeAny (model prog w) A (.call (.builtin "tuple.__new__") ⟨[.type "tuple", .ref r], []⟩) (wants Q₁ E) s := by
  refine codeAny_of_tree ?_
  show wpAny _ A.in1 (do checkBuiltinCall "tuple.__new__" ⟨[.type "tuple", .ref r], []⟩; again (.builtin "tuple.__new__" ⟨[.type "tuple", .ref r], []⟩)) _ _ s
  refine wpAny_bind (wpAny_of_eq (F.newCall_tuple_1 _) (wpAny_pure ⟨plainId_quiet F.plain_tuple_new _, codeAny_builtin F.entry_tuple_new ?_⟩))
  rw [Around.under_plainId F.plain_tuple_new _]
  have hsub := sub_tuple_self
  have hinit := init_tuple_lookup
  have hmh := madeHere_tuple
  have hTI : s.TypeIs (.ref r) "dict_values" := K.type s hok
  have hh1 : A.in1.handled = none := hh
  wp_walk using wpAny_typeOf hTI, collect_kdl (A := A.in1) K hh1 hok hn
  intro h' tk acc hk hacc
  show wpAny _ _ (Builtin.Tuple.tupleExact acc.toList.toArray >>= fun v => ret v) _ _ _
  unfold Builtin.Tuple.tupleExact
  refine wpAny_bind (wpAny_newObj_type ?_ (by show acc.toList.toArray.size ≤ sizeLine; simp only [Array.toArray_toList]; rw [hacc.1]; exact hn))
  refine wpAny_pure ?_
  have e : acc.toList.toArray = acc := by simp
  rw [e]
  exact h h' tk acc hk hacc
theorem call_tuple_kdl {Q : Value → Shared → Prop} (K : KdlSrc prog w "dict_values" r d n P OK) (hh : A.handled = none) (hok : OK s.heap) (hn : n ≤ sizeLine)
    (hQ : ∀ (h' : Heap) (tk : Nat) (acc : Array Value), (∀ b o, s.heap.get? b = some o → h'.get? b = some o) → ItemsOf P acc n →
      Q (.ref h'.objs.size) { s with heap := h'.push { cls := .type "tuple", data := .seq acc }, toks := tk }) :
    wpAny (model prog w) A (call (.type "tuple") [.ref r]) Q E s := by
  refine callType_codes (Q₁ := fun obj s₁ => s₁.TypeIs obj "tuple" ∧ Q obj s₁) F.called_tuple (F.typeCall_tuple_1 _) F.entry_object_init
    (code_tuple_new_kdl (A := A.in1) K hh hok hn fun h' tk acc hk hacc => ⟨⟨_, Heap.get?_push_size _ rfl, rfl⟩, hQ h' tk acc hk hacc⟩) fun obj s₁ h₁ => ?_
  exact ⟨h₁.1, F.args_object_init_2 obj _, object_init_meets F.called_tuple.init.lookup F.called_tuple.made (by decide) prog w A.in1 _ s₁ ⟨h₁.1, rfl, h₁.2⟩⟩
end
def tTupVals (td : TE) : TE := fun σ H Q => td σ H fun x H1 => ∃ a kvs, x = V.ref a ∧ H1 a = some (.dK kvs) ∧ ∀ p, H1 p = none → Q (.ref p) (upd H1 p (.tup (kvs.map (·.2))))
section
variable {X : Cx} {o : Expr} {p pos apos mpos : Pos} {td : TE}
theorem pe_tupVals (hc : X.calm = true) (hg : Gl X "tuple") (hm : X.mg "tuple" = none) (hd : PE X o td) (hbase : attributeBase o "values" X.env (eval o X.env) = eval o X.env := by rfl) (hline : (apos.endLine == mpos.line) = true := by rfl)
    (hse : starEach [Expr.Call (.Attribute o "values" apos) [] [] mpos] X.env = [(false, eval (Expr.Call (.Attribute o "values" apos) [] [] mpos) X.env)] := by rfl) :
    PE X (.Call (.Name "tuple" p) [.Call (.Attribute o "values" apos) [] [] mpos] [] pos) (tTupVals td) := by
  refine ⟨fun pins s σ H Q I h => ?_⟩
  have hse2 : starEach [Expr.Call (.Attribute o "values" apos) [] [] mpos] X.env = (false, eval (Expr.Call (.Attribute o "values" apos) [] [] mpos) X.env) :: starEach [] X.env := hse
  refine Call_ (ld_blt I hg hm boot_tuple (PyProof.Rows.callWith_type1 (args_cons (wpAny_Call_method0_late hbase hline (thn (hd.run pins s σ H _ I h) fun v s1 ⟨x, H1, I1, r1, a, kvs, ex, ha, q⟩ => ?_)) hse2) hse2 rfl))
  subst ex
  obtain rfl : v = Value.ref a := r1
  obtain ⟨z, hsys, vs, rel, dof⟩ := dk_of I1.hok ha
  obtain ⟨ep, dat⟩ := dof.dictAt
  have dat' := dat
  obtain ⟨ob, es, ho, ex, hdat, hko, hpr, hnd⟩ := dat'
  refine ⟨"dict", "dict.values", F.plainAttrs_dict, F.slot_dict_values, F.type_dict_values, ⟨ob, ho, ex.1⟩, fun b e => ?_, Calls.callWith_builtin rfl (PySem.evalArgs_none ?_)⟩
  · cases e
    exact ⟨ob, ho, ex.2.1⟩
  refine call_meetsIn F.slot_dict_values ⟨ob, ho, ex.1⟩ F.entry_dict_values (F.args_dict_values_1 _) (meets_dict_values (mixKind X.prog X.w) a hsys) ⟨⟨vs, dof⟩, ?_⟩
  have k1 : ∀ b u, s1.heap.get? b = some u → (s1.heap.push { cls := .type "dict_values", data := .fields #[.ref a] }).get? b = some u := fun b u e => Heap.get?_push_of_some _ e
  have dat1 : (s1.heap.push { cls := .type "dict_values", data := .fields #[.ref a] }).DictAt (mixKind X.prog X.w) a vs ep := dat.keep k1
  refine args_nil ?_
  have hl : kvs.length = vs.length := Paired.length rel
  have I2 : Inv X pins σ H1 { s1 with heap := s1.heap.push { cls := .type "dict_values", data := .fields #[.ref a] } } := I1.kept (t' := s1.toks) k1
  refine call_tuple_kdl (kdl_values (knd := mixKind X.prog X.w) (d := a) (r := s1.heap.objs.size) (kvs := vs) (ep := ep)) (I.ok.hd hc) ⟨⟨_, Heap.get?_push_size _ rfl, rfl, rfl⟩, dat1⟩ (by rw [← hl]; exact z) fun h' tk acc hk hacc => ?_
  have I3 : Inv X pins σ H1 { s1 with heap := h', toks := tk } := I2.kept (t' := tk) hk
  refine ⟨.ref h'.objs.size, upd H1 h'.objs.size (.tup (kvs.map (·.2))), I3.laid (t' := tk) (fun b o e => Heap.get?_push_of_some _ e) (Nat.le_refl _) (show ObjOk X.prog X.w _ _ _ (.tup (kvs.map (·.2))) from ⟨by rw [List.length_map]; exact z, acc.toList, ?_, by rw [Array.toArray_toList]; exact IsTup.new _ _⟩), rfl, q _ (I3.hok.fresh (Nat.le_refl _))⟩
  have el : acc.toList.length = acc.size := by simp
  refine vals_of_at (by rw [List.length_map, el, hacc.1, hl]) fun j x w h1 h2 => ?_
  obtain ⟨k, hky⟩ := hacc.2 j w (by rw [← Array.getElem?_toList]; exact h2)
  obtain ⟨y, h3, h4⟩ := KV.at' rel hky
  rw [List.getElem?_map, h3] at h1
  cases h1
  exact h4
end
end L2

/-! ### enumerate over a tuple (the hand layer has it over a list) -/
namespace PySem
open Sem (wp)
open AutoSeq1 (wpAny_loadPart')
theorem new_enumT (t : Addr) (its : Array Value) (n : Nat) (dc : Option Addr) (sl : Array (Option Value)) :
    Meets (Builtin.«enumerate.__new__» ⟨[.type "enumerate", .ref t], []⟩) (fun _ R s => s.heap.get? t = some { cls := .type "tuple", dict := dc, data := .seq its n, slots := sl } ∧
      R (.ok (.ret (.ref (s.heap.push { cls := .type "tuple_iterator", data := .fields #[.ref t, .int 0 0] }).objs.size)))
        { s with heap := (s.heap.push { cls := .type "tuple_iterator", data := .fields #[.ref t, .int 0 0] }).push { cls := .type "enumerate", data := .fields #[.none, .bool false, .ref s.heap.objs.size, rawInt 0, .none, .none] } }) :=
  .of_wp fun prog w A R s both => by
    obtain ⟨hp, g, d, tk, os⟩ := s
    obtain ⟨ht, both⟩ := both
    have below := sub_enumerate
    have tup : Heap.IsTuple (Shared.heap ⟨hp, g, d, tk, os⟩) t its := ⟨_, ht, rfl, n, rfl⟩
    wp_walk using wpAny_loadPart' ht
    refine wpAny_stack_any fun _ => wpAny_pure ?_
    split
    · rename_i c _ _ _ _ _
      cases (c == Value.type "enumerate")
      · wp_walk using wpAny_loadPart' ht, wpAny_pyIter_tuple tup
        exact ⟨_, rfl, both⟩
      · wp_walk using wpAny_loadPart' ht, wpAny_pyIter_tuple tup
        exact ⟨_, rfl, both⟩
    · wp_walk using wpAny_loadPart' ht, wpAny_pyIter_tuple tup
      exact ⟨_, rfl, both⟩
section
variable {prog : Program} {w : World} {A : Around} {E : Value → Shared → Prop} {s : Shared}
theorem call_enumT {t : Addr} {its : Array Value} {Q : Value → Shared → Prop} (ht : s.heap.IsTuple t its)
    (q : ∀ h', IsEnum h' (s.heap.objs.size + 1) s.heap.objs.size 0 .none → h'.IsTupleIter s.heap.objs.size t 0 →
      (∀ b o, s.heap.get? b = some o → h'.get? b = some o) → Q (.ref (s.heap.objs.size + 1)) { s with heap := h' }) :
    wpAny (model prog w) A (call (.type "enumerate") [.ref t]) Q E s := by
  obtain ⟨⟨c, dc, da, sl⟩, ht, ec, n, ed⟩ := ht
  obtain rfl : c = .type "tuple" := ec
  obtain rfl : da = .seq its n := ed
  refine callType_new F.called_enumerate (by decide) (F.typeCall_enumerate_1 _) (F.newCall_enumerate_1 _) (fun ob => F.args_object_init_2 ob _) F.entry_enumerate_new (new_enumT t its n dc sl) ⟨ht, ?_⟩
  have sz : (s.heap.push { cls := .type "tuple_iterator", data := .fields #[.ref t, .int 0 0] }).objs.size = s.heap.objs.size + 1 := Heap.size_push ..
  show _ ∧ _
  rw [sz]
  have en : IsEnum ((s.heap.push { cls := .type "tuple_iterator", data := .fields #[.ref t, .int 0 0] }).push { cls := .type "enumerate", data := .fields #[.none, .bool false, .ref s.heap.objs.size, rawInt 0, .none, .none] })
      (s.heap.objs.size + 1) s.heap.objs.size 0 .none := by
    have z := Heap.get?_push_size (s.heap.push { cls := .type "tuple_iterator", data := .fields #[.ref t, .int 0 0] }) (o := { cls := .type "enumerate", data := .fields #[.none, .bool false, .ref s.heap.objs.size, rawInt 0, .none, .none] }) rfl
    rw [sz] at z
    exact z
  exact ⟨⟨_, en, rfl⟩, q _ en ⟨_, Heap.get?_push_of_some _ (Heap.get?_push_size _ rfl), rfl, rfl⟩ fun b o x => Heap.get?_push_of_some _ (Heap.get?_push_of_some _ x)⟩
end
end PySem
namespace L2
open PySem PySem.Spec PyProof.Rows
/-- the tuple at a, each item in a new pair behind its index -/
def IteT (K : PySem.W.Frag) (a : Addr) : It :=
  ⟨fun i H => ∃ (ys : List V) (y : V), SqT K H a ys ∧ ys[i]? = some y, fun i H v H' => ∃ p y, v = .ref p ∧ H p = none ∧ H' = upd H p (.tup [.int (i : Nat), y]) ∧ ∀ ys, SqT K H a ys → ys[i]? = some y,
    fun i H => ∃ ys : List V, SqT K H a ys ∧ ys.length = i⟩
theorem turn_enumT {P : Program} {w : World} {K : PySem.W.Frag} {elts : List Expr} {kk : Nat} {tp : Pos} (a e it : Addr) :
    Turn P w K (.Tuple elts kk tp) (IteT K a) [e, it] e (fun i h => (∃ old, IsEnum h e it ((i : Nat) : Int) old) ∧ h.IsTupleIter it a i ∧ (e ≠ it ∧ a ≠ it ∧ a ≠ e)) where
  mem := by simp
  obj := fun i h st b hb => by
    obtain ⟨⟨old, he⟩, ⟨o, ho, _, dd⟩, _⟩ := st
    rcases (show b = e ∨ b = it by simpa using hb) with rfl | rfl
    · exact ⟨_, he, fun v z => nomatch z⟩
    · exact ⟨o, ho, fun v z => by rw [dd] at z; exact nomatch z⟩
  keep := fun i h h' st k => by
    obtain ⟨⟨old, he⟩, ⟨o, ho, r⟩, ne⟩ := st
    exact ⟨⟨old, k e (by simp) _ he⟩, ⟨o, k it (by simp) _ ho, r⟩, ne⟩
  item := by
    intro X hP hw hK hc i pins s σ H E I hf st hg
    subst hP hw hK
    obtain ⟨⟨old, he⟩, hit, ne, nai, nae⟩ := st
    obtain ⟨ys, y, hq, hy⟩ := hg
    obtain ⟨its, rv, p, hz⟩ := I.tuple hq
    obtain ⟨u, hu, ru⟩ := rv.get hy
    have szE : e < s.heap.objs.size := Heap.lt_size he
    have szI : it < s.heap.objs.size := by
      obtain ⟨_, z, _⟩ := hit
      exact Heap.lt_size z
    have small : ∀ b ∈ [e, it], b < s.heap.objs.size := fun b hb => by
      rcases (show b = e ∨ b = it by simpa using hb) with rfl | rfl <;> assumption
    have D := Draws.tuple (prog := X.prog) (w := X.w) (A := X.A.in1) (I.ok.hd hc) it a nai its.toArray
    have hlt : i < its.toArray.size := by
      have := (List.getElem?_eq_some_iff.mp hu).1
      simpa using this
    refine wpAny_pyNext_enum_itemD D he ⟨hit, p⟩ hlt ne (by simp only [List.mem_cons, List.not_mem_nil, or_false, not_or]; exact ⟨ne, Ne.symm nae⟩) fun x h' tk hx ho st2 hT hsz hk => ?_
    obtain ⟨hit2, _⟩ := st2
    have ex : x = u := by
      have h2 : its.toArray[i]? = some u := by simpa using hu
      rw [h2] at hx
      exact (Option.some.inj hx).symm
    subst ex
    refine ⟨_, rfl, wpAny_letOwnedTupleGo_enum (s := { s with heap := h', toks := tk + 1 }) ho fun h'' he' sb => ?_⟩
    have hT2 : h''.get? s.heap.objs.size = some { cls := .type "tuple", data := .seq #[.int i tk, x] } := (sb.2 _ (Nat.ne_of_gt szE)).trans hT
    have okN : ObjOk X.prog X.w (upd H s.heap.objs.size (.tup [.int (i : Nat), y])) h'' s.heap.objs.size (.tup [.int (i : Nat), y]) :=
      ⟨by show 2 ≤ sizeLine; decide, [.int i tk, x], .cons ⟨_, rfl⟩ (.cons ru .nil), ⟨_, hT2, rfl, _, rfl⟩⟩
    have J : Inv X pins σ (upd H s.heap.objs.size (.tup [.int (i : Nat), y])) { s with heap := h'', toks := tk + 1 } :=
      I.turnedNew (ch := [e, it]) (fun b ob hb z => (sb.2 b (fun y => hb (by simp [y]))).trans (hk b ob (fun y => hb (by simp [y])) (fun y => hb (by simp [y])) z)) hf (Nat.le_refl _) okN
    refine ⟨.ref s.heap.objs.size, _, J, rfl, ⟨_, y, rfl, I.hok.fresh (Nat.le_refl _), rfl, fun zs hs => by rw [I.tuple_inj hs hq]; exact hy⟩, ⟨⟨x, ?_⟩, ?_, ne, nai, nae⟩, fun b hb => ?_⟩
    · rw [show ((i + 1 : Nat) : Int) = (i : Int) + 1 by omega]
      exact he'
    · obtain ⟨o, ho2, r⟩ := hit2
      exact ⟨o, (sb.2 it (Ne.symm ne)).trans ho2, r⟩
    · rw [upd_ne (Nat.ne_of_lt (small b hb))]
      exact (hf b hb).1
  done := by
    intro X hP hw hK hc i pins s σ H E I hf st hg
    subst hP hw hK
    obtain ⟨⟨old, he⟩, hit, ne, nai, nae⟩ := st
    obtain ⟨ys, hq, hle⟩ := hg
    obtain ⟨its, rv, p, hz⟩ := I.tuple hq
    have len : its.toArray.size = i := by
      have := rv.length
      simp
      omega
    obtain ⟨g0, g1, _, g3, g4, g5⟩ := hf it (by simp)
    rw [← len] at hit
    have D := Draws.tuple (prog := X.prog) (w := X.w) (A := X.A.in1) (I.ok.hd hc) it a nai its.toArray
    exact wpAny_pyNext_enum_endD D he ⟨hit, p⟩ fun h' eb => ⟨rfl, I.turned (t' := s.toks) (fun b o hb z => eb b o hb z) g0 g1 g3 g4 g5⟩
  self := fun A i s Q E st h => by
    obtain ⟨⟨_, he⟩, _⟩ := st
    exact wpAny_pyIter_enum he h
def iEnumT (K : PySem.W.Frag) (ta : TA) : TI := fun σ H R => ta σ H fun vs H1 => ∃ a ys, vs = [.ref a] ∧ SqT K H1 a ys ∧ R (IteT K a) H1
theorem pi_enumT {X : Cx} {e : Expr} {ta : TA} {p pos tp : Pos} {elts : List Expr} {kk : Nat} (hg : Gl X "enumerate") (hm : X.mg "enumerate" = none) (ha : PA X [e] ta) (hs : starEach [e] X.env = [(false, eval e X.env)] := by rfl) :
    PI X (.Tuple elts kk tp) (.Call (.Name "enumerate" p) [e] [] pos) (iEnumT X.K ta) := by
  refine ⟨fun pins s σ H R I h => Call_ (ld_blt I hg hm boot_enumerate (PyProof.Rows.callWith_type1 (thn (ha.run pos pins s σ H _ I h) fun us s1 ⟨vs, H1, I1, r1, q1⟩ => ?_) hs rfl))⟩
  obtain ⟨a, ys, rfl, hq, q⟩ := q1
  cases r1 with
  | cons r rr =>
    cases rr
    cases r
    obtain ⟨its, rv, p', hz⟩ := I1.tuple hq
    have hp' : s1.heap.IsTuple a its.toArray := p'
    have old : a < s1.heap.objs.size := by
      obtain ⟨o, ho, _⟩ := hp'
      exact Heap.lt_size ho
    refine call_enumT hp' fun h' he hit hk => wpAny_pyIter_enum he ?_
    refine ⟨s1.heap.objs.size + 1, [s1.heap.objs.size + 1, s1.heap.objs.size], _, _, H1, rfl, I1.kept (t' := s1.toks) hk, turn_enumT a (s1.heap.objs.size + 1) s1.heap.objs.size,
      ⟨⟨.none, he⟩, hit, Nat.succ_ne_self _, Nat.ne_of_lt old, Nat.ne_of_lt (Nat.lt_succ_of_lt old)⟩, fun b hb => ?_, q⟩
    have hle : s1.heap.objs.size ≤ b := by
      rcases (show b = s1.heap.objs.size + 1 ∨ b = s1.heap.objs.size by simpa using hb) with rfl | rfl
      · exact Nat.le_succ _
      · exact Nat.le_refl _
    exact I1.fpOk hle (I1.hok.fresh hle)
theorem walk_enumT {K : PySem.W.Frag} {a : Addr} {xs : List V} : Walk (IteT K a) xs.length (fun H => SqT K H a xs) (YPair (fun i => some (.int (i : Nat))) (fun i => xs[i]?)) :=
  ⟨fun i H hi h => ⟨xs, _, h, List.getElem?_eq_getElem hi⟩, fun H h => ⟨xs, h, rfl⟩, fun i H v H' hi h y => by
    obtain ⟨p, z, rfl, np, rfl, hz⟩ := y
    exact ⟨p, _, z, rfl, np, rfl, rfl, hz xs h⟩⟩
end L2

/-! ### max and min of a tuple of ints -/
namespace L2
open PySem PySem.Spec PyProof.Rows
theorem readsAll_ints {h : Heap} : ∀ {ns : List Int} {its : List Value}, Vals (ns.map V.int) its → ReadsAll h its (ns.map PyData.int) []
  | [], _, .nil => .nil
  | n :: ns, _, .cons r t => by
    obtain ⟨k, rfl⟩ := r
    exact .cons (.int n k) (readsAll_ints t)
theorem alikeAll_ints (ns : List Int) : PySem.W.AlikeAll (ns.map PyData.int) := by
  refine ⟨fun x hx y hy => ?_, fun x hx => ?_⟩
  · obtain ⟨a, _, rfl⟩ := List.mem_map.mp hx
    obtain ⟨b, _, rfl⟩ := List.mem_map.mp hy
    simp [PySem.W.alike]
  · obtain ⟨a, _, rfl⟩ := List.mem_map.mp hx
    exact fun z => nomatch z
theorem depthAll_ints : ∀ ns : List Int, PyData.depthAll (ns.map PyData.int) = 0
  | [] => by simp [PyData.depthAll]
  | _ :: ns => by simp [PyData.depthAll, PyData.depth, depthAll_ints ns]
theorem foldl_max (x : Int) : ∀ xs : List Int, xs.foldl max x ∈ x :: xs ∧ ∀ y ∈ x :: xs, y ≤ xs.foldl max x := by
  intro xs
  induction xs generalizing x with
  | nil => exact ⟨List.mem_cons_self, fun y hy => by rw [List.mem_singleton.mp hy]; exact Int.le_refl _⟩
  | cons a xs ih =>
    obtain ⟨h1, h2⟩ := ih (max x a)
    rw [List.foldl_cons]
    have h3 := h2 _ List.mem_cons_self
    refine ⟨?_, fun y hy => ?_⟩
    · rcases List.mem_cons.mp h1 with e | e
      · rw [e]
        by_cases c : x ≤ a
        · rw [show max x a = a by omega]
          exact List.mem_cons_of_mem _ List.mem_cons_self
        · rw [show max x a = x by omega]
          exact List.mem_cons_self
      · exact List.mem_cons_of_mem _ (List.mem_cons_of_mem _ e)
    · rcases List.mem_cons.mp hy with rfl | hy
      · omega
      · rcases List.mem_cons.mp hy with rfl | hy
        · omega
        · exact h2 y (List.mem_cons_of_mem _ hy)
theorem foldl_min (x : Int) : ∀ xs : List Int, xs.foldl min x ∈ x :: xs ∧ ∀ y ∈ x :: xs, xs.foldl min x ≤ y := by
  intro xs
  induction xs generalizing x with
  | nil => exact ⟨List.mem_cons_self, fun y hy => by rw [List.mem_singleton.mp hy]; exact Int.le_refl _⟩
  | cons a xs ih =>
    obtain ⟨h1, h2⟩ := ih (min x a)
    rw [List.foldl_cons]
    have h3 := h2 _ List.mem_cons_self
    refine ⟨?_, fun y hy => ?_⟩
    · rcases List.mem_cons.mp h1 with e | e
      · rw [e]
        by_cases c : x ≤ a
        · rw [show min x a = x by omega]
          exact List.mem_cons_self
        · rw [show min x a = a by omega]
          exact List.mem_cons_of_mem _ List.mem_cons_self
      · exact List.mem_cons_of_mem _ (List.mem_cons_of_mem _ e)
    · rcases List.mem_cons.mp hy with rfl | hy
      · omega
      · rcases List.mem_cons.mp hy with rfl | hy
        · omega
        · exact h2 y (List.mem_cons_of_mem _ hy)
def rMaxTI (K : PySem.W.Frag) : List V → Hp → VK → Prop := fun vs H Q => ∃ (a : Addr) (ns : List Int), vs = [V.ref a] ∧ SqT K H a (ns.map V.int) ∧ 0 < ns.length ∧ ∀ m, m ∈ ns → (∀ y, y ∈ ns → y ≤ m) → Q (.int m) H
def rMinTI (K : PySem.W.Frag) : List V → Hp → VK → Prop := fun vs H Q => ∃ (a : Addr) (ns : List Int), vs = [V.ref a] ∧ SqT K H a (ns.map V.int) ∧ 0 < ns.length ∧ ∀ m, m ∈ ns → (∀ y, y ∈ ns → m ≤ y) → Q (.int m) H
section
variable {X : Cx}
theorem cr_maxTI (hc : X.calm = true) (hu : X.A.units + 64 < cLine) : CallR X (.builtin "max") (rMaxTI X.K) := by
  intro pins s σ H vs us Q I r h
  obtain ⟨a, ns, rfl, hs, hne, q⟩ := h
  obtain ⟨its, rv, hl, _⟩ := I.tuple hs
  rw [Vals.ref1 r]
  cases ns with
  | nil => exact absurd hne (Nat.lt_irrefl 0)
  | cons x xs =>
    have hr : ReadsAll s.heap its.toArray.toList (PyData.int x :: xs.map PyData.int) [] := readsAll_ints rv
    refine PySem.W.max_tuple_data (I.ok.hd hc) hl hr (alikeAll_ints (x :: xs)) (by rw [show PyData.int x :: xs.map PyData.int = (x :: xs).map PyData.int from rfl, depthAll_ints]; omega) fun i v h' tk bs _ hv hk => ?_
    rw [PySem.W.maxD_ints] at hv
    obtain ⟨m1, m2⟩ := foldl_max x xs
    cases hv
    exact ⟨.int _, H, I.kept hk, ⟨_, rfl⟩, q _ m1 m2⟩
theorem cr_minTI (hc : X.calm = true) (hu : X.A.units + 64 < cLine) : CallR X (.builtin "min") (rMinTI X.K) := by
  intro pins s σ H vs us Q I r h
  obtain ⟨a, ns, rfl, hs, hne, q⟩ := h
  obtain ⟨its, rv, hl, _⟩ := I.tuple hs
  rw [Vals.ref1 r]
  cases ns with
  | nil => exact absurd hne (Nat.lt_irrefl 0)
  | cons x xs =>
    have hr : ReadsAll s.heap its.toArray.toList (PyData.int x :: xs.map PyData.int) [] := readsAll_ints rv
    refine PySem.W.min_tuple_data (I.ok.hd hc) hl hr (alikeAll_ints (x :: xs)) (by rw [show PyData.int x :: xs.map PyData.int = (x :: xs).map PyData.int from rfl, depthAll_ints]; omega) fun i v h' tk bs _ hv hk => ?_
    rw [PySem.W.minD_ints] at hv
    obtain ⟨m1, m2⟩ := foldl_min x xs
    cases hv
    exact ⟨.int _, H, I.kept hk, ⟨_, rfl⟩, q _ m1 m2⟩
end
end L2

/-! ### str(data), and calls of defs that show data, where nothing is being shown -/
namespace L2
open PySem PySem.Spec PyProof.Rows
def rStrD (K : PySem.W.Frag) : List V → Hp → VK → Prop := fun xs H Q => ∃ a d, xs = [.ref a] ∧ Dp K H (.ref a) d ∧ SeqAt.shaped d = true ∧ d.showable = true ∧ wt d ≤ sizeLine ∧ Q (.str d.shown) H
theorem cr_strD {X : Cx} {K : PySem.W.Frag} (hK : X.K = K) (hg : X.A.guards = some []) (hu : X.A.units + 67 < cLine) : CallR X (.type "str") (rStrD K) := by
  subst hK
  intro pins s σ H vs us Q I r h
  obtain ⟨a, d, rfl, hd, hs, hw, hz, q⟩ := h
  cases r with
  | cons rv rn =>
    rename_i v us'
    cases rn
    have hs' : (d.canLay0 && decide (d.depth ≤ 64)) = true := hs
    rw [Bool.and_eq_true] at hs'
    have nd := PyData.hasDict_of_canLay d hs'.1
    have dep : d.depth ≤ 64 := of_decide_eq_true hs'.2
    have sz := Nat.le_trans (shown_wt d hw nd) hz
    obtain ⟨as, rd⟩ := Dp.reads I d (.ref a) v hd rv
    cases rv
    exact str_of_reads rd hw (PyData.noDict_hsm nd) hg (by omega) (fun _ _ e => e) (fun h' u tk hk => ⟨.str _, H, I.kept (t' := tk) hk, ⟨u, rfl⟩, q⟩) sz
section
variable {X : Cx} {k : Nat} {f : Addr} {fd : FuncData} {ps : List Str} {sp : Sp} {ds : List Value} {dvs : List V}
theorem run_fnG {pins : List (Addr × Obj)} {σ : St} {H : Hp} {s : Shared} {Q : VK} {us : List Value} {vs : List V} (hgu : X.A.guards = some []) (F : FnG X.prog X.w X.K X.mg X.base k f fd ps sp) (hr : Room k X.A) (hb : Binds X.K fd ps ds) (hd : Vals dvs ds)
    (I : Inv X pins σ H s) (r : Vals vs us) (h : sp (vs ++ dvs) H Q E0) : wpAny (model X.prog X.w) X.A (call (.ref f) us) (EP X pins σ Q) X.xe s := by
  have r2 : Vals (vs ++ dvs) (us ++ ds) := r.append hd
  have hl : (us ++ ds).length = ps.length := by rw [← r2.length]; exact F.len _ _ _ _ h
  refine wpAny_call (codeAny_mono (F.run X.A X.stack s H ⟨us, []⟩ (us ++ ds) (vs ++ dvs) Q E0 hgu hr I.env0 (hb s us I.kIn hl) r2 h) fun r s' hq => ?_)
  cases r with
  | error e => exact pass0 pins σ H s e s' I hq
  | ok fl =>
    cases fl with
    | ret u => exact I.after hq
    | next => exact False.elim hq
    | brk => exact False.elim hq
    | cont => exact False.elim hq
theorem pe_callG {x : Str} {e : Expr} {es : List Expr} {p pos : Pos} {t : TA} (hgu : X.A.guards = some []) (F : FnG X.prog X.w X.K X.mg X.base k f fd ps sp) (hr : Room k X.A) (hg : Gl X x) (hm : X.mg x = some (.ref f)) (hk : PySem.W.keepIn X.K (.ref f) = true) (hb : Binds X.K fd ps ds) (hd : Vals dvs ds)
    (ha : PA X (e :: es) t) (hdb : (x == ("__debug__" : Str)) = false := by decide) (he : starEach (e :: es) X.env = (false, eval e X.env) :: starEach es X.env := by rfl) (hpl : (backTo pos (starEach es X.env)).any (·.1) = false := by rfl) :
    PE X (.Call (.Name x p) (e :: es) [] pos) (tCall sp dvs E0 t) := by
  refine ⟨fun pins s σ H Q I h => ?_⟩
  refine wpAny_Call_Name_kw (ld_glob I hg hm ?_ hdb)
  refine PySem.W.callWith_K (h₀ := X.base) I.ok.mod.kin hk (thn (ha.run pos pins s σ H _ I h) fun us s1 ⟨vs, H1, I1, r, q⟩ => ⟨I1.kIn, ?_⟩) he hpl
  exact run_fnG hgu F hr hb hd I1 r q
end
end L2

/-! ### fe(e, ..), fe an expression that gives one of several defs -/
namespace L2
open PySem PySem.Spec PyProof.Rows
structure HeldX (P : Program) (w : World) (K : PySem.W.Frag) (mg : Str → Option Value) (base : Heap) (CX : CXT) (k : Nat) (f : Addr) (sp : Sp) : Prop where
  ex : ∃ (fd : FuncData) (ps : List Str), FnOk P w K mg base CX k f fd ps sp ∧ PySem.W.keepIn K (.ref f) = true ∧ Binds K fd ps []
def tCallE (S : Addr → Option Sp) (E : St → XK) (tf : TE) (t : TA) : TE := fun σ H Q => tf σ H fun y H1 => ∃ f sp, y = V.ref f ∧ S f = some sp ∧ t σ H1 fun vs H2 => sp vs H2 Q (E σ)
section
variable {X : Cx} {CX : CXT} {k : Nat} {E : St → XK} {p pos : Pos} {fe e : Expr} {es : List Expr} {tf : TE} {t : TA}
theorem pe_callE {S : Addr → Option Sp} (hf : PE X fe tf) (A : ∀ f sp, S f = some sp → HeldX X.prog X.w X.K X.mg X.base CX k f sp) (hr : Room k X.A) (hx : ∀ σ, PassesAt CX X σ (E σ)) (ha : PA X (e :: es) t)
    (ht : eval (.Call fe (e :: es) [] pos) X.env = (do callWith pos (← eval fe X.env) [] (backTo pos (starEach (e :: es) X.env)) (backToKw pos (keywordEach [] X.env))) := by rfl)
    (he : starEach (e :: es) X.env = (false, eval e X.env) :: starEach es X.env := by rfl) (hpl : (backTo pos (starEach es X.env)).any (·.1) = false := by rfl) : PE X (.Call fe (e :: es) [] pos) (tCallE S E tf t) := by
  refine ⟨fun pins s σ H Q I h => ?_⟩
  refine Call_ (thn (hf.run pins s σ H _ I h) fun u s1 ⟨y, H1, I1, ry, f, sp, ey, hS, q⟩ => ?_) ht
  subst ey
  obtain rfl : u = Value.ref f := ry
  obtain ⟨fd, ps, F, hk, hb⟩ := (A f sp hS).ex
  refine PySem.W.callWith_K (h₀ := X.base) I.ok.mod.kin hk (thn (ha.run pos pins s1 σ H1 _ I1 q) fun us s2 ⟨vs, H2, I2, r, q2⟩ => ⟨I2.kIn, ?_⟩) he hpl
  exact run_fnS F hr hb (hx σ) I2 r q2
end
end L2

/-! ### any(list of integers); divmod by a divisor that may be negative -/
namespace L2
open PySem PySem.Spec PyProof.Rows
theorem vals_intsA : ∀ {zs : List Int} {its : List Value}, Vals (zs.map V.int) its → ∀ (i : Nat) (v : Value), its[i]? = some v → ∃ (z : Int) (t : Tok), zs[i]? = some z ∧ v = Value.int z t
  | [], _, h, i, v, e => by
    cases h
    exact nomatch e
  | z :: zs, _, h, i, v, e => by
    cases h with
    | cons r rs =>
      obtain ⟨t, rfl⟩ := r
      cases i with
      | zero => exact ⟨z, t, rfl, (Option.some.inj e).symm⟩
      | succ i => exact vals_intsA rs i v e
def rAnyI (K : PySem.W.Frag) : List V → Hp → VK → Prop := fun vs H Q => ∃ (a : Addr) (zs : List Int), vs = [V.ref a] ∧ SqL K H a (zs.map V.int) ∧ Q (.bl (zs.any (fun z => z != 0))) H
theorem cr_anyI {X : Cx} (hc : X.calm = true) : CallR X (.builtin "any") (rAnyI X.K) := by
  intro pins s σ H vs us Q I r h
  obtain ⟨a, zs, rfl, hs, q⟩ := h
  obtain ⟨its, rv, hl, _⟩ := I.list hs
  rw [Vals.ref1 r]
  have tr : TruthOf X.prog X.w X.A.in1 (fun i v => its.toArray[i]? = some v) (fun i => zs.getD i 0 != 0) := fun i v s Q E hv hq => by
    have hv' : its[i]? = some v := by simpa using hv
    obtain ⟨z, t, hz, rfl⟩ := vals_intsA rv i v hv'
    have e : zs.getD i 0 = z := by rw [List.getD_eq_getElem?_getD, hz]; rfl
    rw [← e]
    exact PySem.P.truthy_int hq
  refine call_any_walk (iter_any hl.isList fun s₂ e2 st hne => ?_)
  subst e2
  refine ⟨_, _, _, _, _, _, _, rfl, Walks.list (A := X.A.in1) (I.ok.hd hc) _ a hne its.toArray, st, tr, fun h' tk hk => ?_⟩
  refine ⟨.bl _, H, I.kept fun b o eo => hk b o (fun mem => ?_) (Heap.get?_push_of_some _ eo), ?_, q⟩
  · rcases List.mem_cons.mp mem with e1 | mem
    · exact absurd (e1 ▸ Heap.lt_size eo) (Nat.lt_irrefl _)
    · exact nomatch mem
  · show Value.bool _ = Value.bool _
    have len : its.toArray.size = zs.length := by
      have := rv.length
      rw [List.length_map] at this
      simp [this]
    have e : ∀ l : List Int, (List.range l.length).any (fun i => l.getD i 0 != 0) = l.any (fun z => z != 0) := fun l => by
      induction l with
      | nil => rfl
      | cons z l ih =>
        rw [List.length_cons, List.range_succ_eq_map, List.any_cons, List.any_map, List.any_cons, ← ih]
        rfl
    rw [len, e]
theorem call_divmodN {X : Cx} : CallR X (.builtin "divmod") (fun xs H Q => ∃ i j, xs = [.int i, .int j] ∧ CDivN i j ∧ ∀ p, H p = none → Q (.ref p) (upd H p (.tup [.int (i.fdiv j), .int (i.fmod j)]))) := by
  intro pins s σ H xs us Q I r h
  obtain ⟨i, j, rfl, ⟨h1, h2⟩, q⟩ := h
  obtain ⟨u, w', rfl, ⟨t, rfl⟩, ⟨t', rfl⟩⟩ := vals2 r
  refine divmod_int h1 ?_ (.inl (PyProof.noPylong_small h2))
  have free : H s.heap.objs.size = none := I.hok.fresh (Nat.le_refl _)
  have laid := I.laid (t' := s.toks + 1 + 1) (o := .tup [.int (i.fdiv j), .int (i.fmod j)]) (a := s.heap.objs.size) (h' := s.heap.push { cls := .type "tuple", data := .seq #[.int (i.fdiv j) s.toks, .int (i.fmod j) (s.toks + 1)] }) (fun b o e => Heap.get?_push_of_some _ e) (Nat.le_refl _)
    ⟨by show 2 ≤ sizeLine; decide, [.int (i.fdiv j) s.toks, .int (i.fmod j) (s.toks + 1)], .cons ⟨_, rfl⟩ (.cons ⟨_, rfl⟩ .nil), ⟨_, Heap.get?_push_size s.heap rfl, rfl, 0, rfl⟩⟩
  exact ⟨.ref s.heap.objs.size, _, laid, rfl, q _ free⟩
end L2

/-! ### factorial, comb -/
namespace L2
open PySem PySem.Spec PyProof.Rows
def rFac : List V → Hp → VK → Prop := fun xs H Q => ∃ a : Int, xs = [.int a] ∧ 0 ≤ a ∧ a ≤ 20000 ∧ Q (.int ((Builtin.Math.factorialNat a.toNat : Nat) : Int)) H
theorem cr_fac {X : Cx} : CallR X (.builtin "math.factorial") rFac := by
  intro pins s σ H vs us Q I r h
  obtain ⟨a, rfl, h0, h1, q⟩ := h
  obtain ⟨w1, rfl, t, rfl⟩ := vals1 r
  exact PySem.W.mc_factorial h0 h1 fun _ => ⟨.int _, H, I.tok _, ⟨_, rfl⟩, q⟩
def rComb : List V → Hp → VK → Prop := fun xs H Q => ∃ a b : Int, xs = [.int a, .int b] ∧ 0 ≤ a ∧ 0 ≤ b ∧ a ≤ 18000 ∧ Q (.int (PySem.W.mcComb a b)) H
theorem cr_comb {X : Cx} : CallR X (.builtin "math.comb") rComb := by
  intro pins s σ H vs us Q I r h
  obtain ⟨a, b, rfl, h0, h1, h2, q⟩ := h
  obtain ⟨t, u, rfl⟩ := Vals.int2 r
  have big : (18000 : Int) < 2 ^ 64 := by decide
  exact PySem.W.mc_comb h0 h1 (by omega) (.inr h2) fun _ => ⟨.int _, H, I.tok _, ⟨_, rfl⟩, q⟩
end L2

/-! ### max(list of ints, default=d) -/
namespace L2
open PySem PySem.Spec PyProof.Rows
def rMaxDef (K : PySem.W.Frag) : List V → List V → Hp → VK → Prop := fun xs zs H Q => ∃ (a : Addr) (ns : List Int) (d : Int), xs = [.ref a] ∧ zs = [.int d] ∧ SqL K H a (ns.map V.int) ∧ (ns = [] → Q (.int d) H) ∧ ∀ m, m ∈ ns → (∀ y, y ∈ ns → y ≤ m) → Q (.int m) H
theorem cr_maxDef {X : Cx} {K : PySem.W.Frag} (hK : X.K = K) (hc : X.calm = true) (hu : X.A.units + 64 < cLine) : CallRK X (.builtin "max") [Str.ofString "default"] (rMaxDef K) := by
  subst hK
  intro pins s σ H vs zs us ws Q I r rz h
  obtain ⟨a, ns, d, rfl, rfl, hs, q0, q1⟩ := h
  obtain rfl := Vals.ref1 r
  obtain ⟨w1, rfl, t, rfl⟩ := vals1 rz
  obtain ⟨its, rv, hl, _⟩ := I.list hs
  have hr : ReadsAll s.heap its.toArray.toList (ns.map PyData.int) [] := readsAll_ints rv
  refine PySem.W.max_list_default (I.ok.hd hc) hl.isList hr (alikeAll_ints ns) (by rw [depthAll_ints]; omega) (fun e h' tk hk => ⟨.int d, H, I.kept hk, ⟨_, rfl⟩, q0 (List.map_eq_nil_iff.mp e)⟩) fun y ys i v h' tk bs e _ hv hk => ?_
  cases ns with
  | nil => exact nomatch e
  | cons x xs =>
    obtain ⟨rfl, rfl⟩ := List.cons.inj e
    rw [PySem.W.maxD_ints] at hv
    obtain ⟨m1, m2⟩ := foldl_max x xs
    cases hv
    exact ⟨.int _, H, I.kept hk, ⟨_, rfl⟩, q1 _ m1 m2⟩
end L2

/-! ### walks of comprehensions with two fors -/
namespace L2
open PySem PySem.Spec PyProof.Rows
theorem walkD_list {K : PySem.W.Frag} {a : Addr} {xs : List V} {H0 : Hp} {Qd : Hp → Prop} {body : V → Hp → (Hp → Prop) → Prop} (Pv : Nat → Hp → Prop) (h0 : Pv 0 H0) (hl : ∀ i H, Pv i H → SqL K H a xs)
    (step : ∀ i x H, xs[i]? = some x → Pv i H → body x H (Pv (i + 1))) (last : ∀ H, Pv xs.length H → Qd H) :
    ∃ W : Nat → Nat → Hp → Prop, (∃ m, W 0 m H0) ∧ ∀ i m H, W i m H → ((Itl K a).stop i H ∧ Qd H) ∨ ((Itl K a).go i H ∧ ∃ Nx : Hp → Prop, (∀ H', Nx H' → ∃ m', m' < m ∧ W (i + 1) m' H') ∧ ∀ x H', (Itl K a).yld i H x H' → body x H' Nx) := by
  refine ⟨fun i m H => i + m = xs.length ∧ Pv i H, ⟨xs.length, Nat.zero_add _, h0⟩, fun i m H ⟨em, p⟩ => ?_⟩
  have sq := hl i H p
  cases m with
  | zero =>
    have e : i = xs.length := em
    exact .inl ⟨⟨xs, sq, by omega⟩, last H (e ▸ p)⟩
  | succ m =>
    have lt : i < xs.length := by omega
    refine .inr ⟨⟨xs, xs[i], sq, List.getElem?_eq_getElem lt⟩, Pv (i + 1), fun H' p' => ⟨m, Nat.lt_succ_self m, by omega, p'⟩, fun x H' ⟨eH, y⟩ => ?_⟩
    rw [eH]
    exact step i x H (y xs sq) p
theorem walkD_range {lo : Int} {n : Nat} {H0 : Hp} {Qd : Hp → Prop} {body : V → Hp → (Hp → Prop) → Prop} (Pv : Nat → Hp → Prop) (h0 : Pv 0 H0)
    (step : ∀ i H, i < n → Pv i H → body (.int (lo + (i : Nat))) H (Pv (i + 1))) (last : ∀ H, Pv n H → Qd H) :
    ∃ W : Nat → Nat → Hp → Prop, (∃ m, W 0 m H0) ∧ ∀ i m H, W i m H → ((Itr lo n).stop i H ∧ Qd H) ∨ ((Itr lo n).go i H ∧ ∃ Nx : Hp → Prop, (∀ H', Nx H' → ∃ m', m' < m ∧ W (i + 1) m' H') ∧ ∀ x H', (Itr lo n).yld i H x H' → body x H' Nx) := by
  refine ⟨fun i m H => i + m = n ∧ Pv i H, ⟨n, Nat.zero_add _, h0⟩, fun i m H ⟨em, p⟩ => ?_⟩
  cases m with
  | zero =>
    have e : i = n := em
    exact .inl ⟨Nat.le_of_eq e.symm, last H (e ▸ p)⟩
  | succ m =>
    have lt : i < n := by omega
    refine .inr ⟨lt, Pv (i + 1), fun H' p' => ⟨m, Nat.lt_succ_self m, by omega, p'⟩, fun x H' ⟨eH, y⟩ => ?_⟩
    rw [eH, y]
    exact step i H lt p
end L2

/-! ### a plain list comprehension over a list within an except suite; defs whose errors have no context -/
namespace HotX
open PySem PySem.Spec PyProof.Rows
variable {prog : Program} {w : World} {A : Around} {E : Value → Shared → Prop} {s : Shared}
theorem list_over_hot {it l x1 : Addr} {i : Nat} {items : Array Value} {Q : Option Value → Shared → Prop} (hot : HotAt A x1 s.heap) (hit : s.heap.IsListIter it l i) (hl : s.heap.IsList l items) (hx : items[i]? = none)
    (hQ : ∀ h', (∀ b o, b ≠ it → s.heap.get? b = some o → h'.get? b = some o) → Q none { s with heap := h' }) : wpAny (model prog w) A (pyNext (.ref it)) Q E s := by
  obtain ⟨oi, gi, ci, di⟩ := id hit
  obtain ⟨ol, gl, _, nl, dl⟩ := hl
  obtain ⟨hh, o1, vs1, g1, d1, c1⟩ := hot
  have ne1 : x1 ≠ it := fun z => by
    rw [z, gi] at g1
    obtain rfl := Option.some.inj g1
    rw [di] at d1
    obtain rfl := Data.fields.inj d1
    exact nomatch (show (some (Value.none) : Option Value) = _ from c1.symm)
  unfold pyNext
  apply wpAny_bind
  apply wpAny_attempt
  apply wpAny_callSpecial?_slot (name := Str.ofString "__next__") hit.typeIs slot_listiter_next
  apply wpAny_call_entry slot_listiter_next hit.typeIs entry_listiter_next ?_ (args_listiter_next _)
  show wpAny _ _ (field (Value.ref it) 0 >>= _) _ _ s
  apply wpAny_bind
  apply wpAny_field gi di (x := Value.ref l) rfl
  show wpAny _ _ (if (Value.ref l == Value.none) = true then _ else _) _ _ s
  rw [if_neg (by exact Bool.false_ne_true)]
  show wpAny _ _ (field (Value.ref it) 1 >>= _) _ _ s
  apply wpAny_bind
  apply wpAny_field gi di (x := Value.int i 0) rfl
  show wpAny _ _ (seqItems? (Value.ref l) >>= _) _ _ s
  apply wpAny_bind
  apply wpAny_seqItems gl dl
  simp only [Int.toNat_natCast, hx]
  apply wpAny_bind
  apply wpAny_rule
  apply wpAny_bind
  apply wpAny_setField gi di (by simp)
  show wpAny _ _ (newExc (Value.type "StopIteration") [] >>= _) _ _ _
  apply wpAny_bind
  simp only [newExc, newTuple]
  apply wpAny_bind
  apply wpAny_newObj_type (hd := by size_fits)
  apply wpAny_bind
  apply wpAny_of_eq (a := Value.none) (by first | rfl | exact rfl)
  apply wpAny_newObj_type (hd := by size_fits)
  have k1 : (s.heap.update it (Obj.mapFields fun x => x.setIfInBounds 0 Value.none)).get? x1 = some o1 := (Heap.get?_update_other _ _ ne1.symm).trans g1
  have k2 : ∀ o o' : Obj, (((s.heap.update it (Obj.mapFields fun x => x.setIfInBounds 0 Value.none)).push o).push o').get? x1 = some o1 := fun o o' => Heap.get?_push_of_some _ (Heap.get?_push_of_some _ k1)
  have k3 := fun o o' => Heap.lt_size (k2 o o')
  refine raiseNew_hot (A := A.in1) (x1 := x1) ⟨hh, o1, vs1, k2 _ _, d1, c1⟩ (Nat.ne_of_lt (Heap.lt_size (Heap.get?_push_of_some _ k1))) (Heap.get?_push_size _ rfl) rfl (by first | (simp; done) | (simp; omega)) ?_
  apply wpAny_bind
  refine wpAny_isInstance (b := true) (T := "StopIteration") ⟨_, Heap.get?_update_self _ (Heap.get?_push_size _ rfl) rfl, rfl⟩ isSubtype_stop (wpAny_pure (hQ _ fun b o nb e => ?_))
  have e1 := (Heap.get?_update_other s.heap (Obj.mapFields fun x => x.setIfInBounds 0 Value.none) (Ne.symm nb)).trans e
  have e2 := Heap.get?_push_of_some { cls := Value.type "tuple", data := Data.seq #[] } e1
  rw [Heap.get?_update_other _ _ (Nat.ne_of_gt (Heap.lt_size e2))]
  exact Heap.get?_push_of_some _ e2
end HotX
namespace L2
open PySem PySem.Spec PyProof.Rows HotX
/-- the except suite's own exception stands, its context is None -/
def HotS (X : Cx) : Prop := ∃ p : Addr × Obj, p ∈ X.pn ∧ X.A.handled = some (.ref p.1) ∧ ∃ vs : Array Value, p.2.data = .fields vs ∧ vs[2]? = some .none
/-- [e for y in xs], e without effect: f of each item -/
def tLcMap (K : PySem.W.Frag) (tl : TE) (g : TG) (te : TE) (vs : List Nat) : TE := fun σ H Q => tl σ H fun x H1 => ∃ (a : Addr) (xs : List V) (f : V → V), x = .ref a ∧ SqL K H1 a xs ∧ xs.length < sizeLine ∧
  (∀ y ∈ xs, ∀ H2 : Hp, g y (wipe σ vs) H2 fun σ2 H3 => wipe σ2 vs = wipe σ vs ∧ te σ2 H3 fun z H4 => z = f y ∧ H4 = H2) ∧ ∀ D, H1 D = none → Q (.ref D) (upd H1 D (.lst (xs.map f)))
theorem pe_lcMap {X : Cx} {elt tg iter : Expr} {scope : Scope} {own : List (Str × Nat)} {pos : Pos} {tl : TE} {g : TG} {te : TE} (hotX : HotS X) (nd : X.N.Nodup) (walked : PE X iter tl) (okb : BlkOk X.N X.env.scope scope own)
    (pgAll : ∀ (s : Shared) (H : Hp) (C : Addr) (cl : List (Str × Addr)) (fp : List Addr), PG (X.blk s H scope (compEnvC scope cl C X.env) fp) tg g)
    (peAll : ∀ (s : Shared) (H : Hp) (C : Addr) (cl : List (Str × Addr)) (fp : List Addr), PE (X.blk s H scope (compEnvC scope cl C X.env) fp) elt te)
    (fold : ∀ x, foldedSetIterable iter X.env x = pure x := by intro _; rfl) : PE X (.ListComp elt [⟨tg, iter, [], 0⟩] scope pos) (tLcMap X.K tl g te (own.map (·.2))) := by
  refine ⟨fun pins s σ H Q I h => ?_⟩
  have frees : ∀ y ∈ scope.names, y.2 = .free → ∃ c, X.env.cells.lookup y.1 = some c := fun y hy e => (okb.free y hy e).elim (fun k => I.ok.has _ (.inl k)) (fun k => I.ok.has _ (.inr k))
  rw [eval_ListComp]
  refine wpAny_comprehension_free (use := none) rfl fold (closure_ok frees) okb.kind (fun y hy e => by rw [okb.uniq y hy, e]) (thn (walked.run pins s σ H _ I h) fun itv s1 gone => ?_)
  obtain ⟨x, H1, I1, rx, a, xs, f, rfl, sq, big, each, q⟩ := gone
  cases rx
  obtain ⟨its, vals, plain, _⟩ := I1.list sq
  have lenV : xs.length = its.length := vals.length
  refine wpAny_pyIter_list plain.isList ?_
  -- the iterator
  have I2 : Inv X pins σ H1 { s1 with heap := s1.heap.push { cls := .type "list_iterator", data := .fields #[.ref a, .int 0 0] } } := I1.kept (t' := s1.toks) fun b o e => Heap.get?_push_of_some _ e
  have fpI := I1.fpOk (H' := H1) (Nat.le_refl s1.heap.objs.size) (I1.hok.fresh (Nat.le_refl _))
  have itr : (s1.heap.push { cls := .type "list_iterator", data := .fields #[.ref a, .int 0 0] }).IsListIter s1.heap.objs.size a 0 := ⟨_, Heap.get?_push_size _ rfl, rfl, rfl⟩
  have plain2 : PlainL (s1.heap.push { cls := .type "list_iterator", data := .fields #[.ref a, .int 0 0] }) a its.toArray := by
    obtain ⟨o, n, e, r⟩ := plain
    exact ⟨o, n, Heap.get?_push_of_some _ e, r⟩
  have lt2 : s1.heap.objs.size < (s1.heap.push { cls := .type "list_iterator", data := .fields #[.ref a, .int 0 0] }).objs.size := by
    rw [Heap.size_push]
    exact Nat.lt_succ_self _
  generalize eit : s1.heap.objs.size = it at itr lt2 fpI ⊢
  generalize es2 : ({ s1 with heap := s1.heap.push { cls := .type "list_iterator", data := .fields #[.ref a, .int 0 0] } } : Shared) = s2 at I2 ⊢
  have itr : s2.heap.IsListIter it a 0 := by rw [← es2]; exact itr
  have plain2 : PlainL s2.heap a its.toArray := by rw [← es2]; exact plain2
  have lt2 : it < s2.heap.objs.size := by rw [← es2]; exact lt2
  clear es2 eit
  -- the new list
  apply wpAny_newObj_type (T := "list") (hd := by show 0 ≤ sizeLine; exact Nat.zero_le _)
  apply newEnv_comp
  have nD : H1 s2.heap.objs.size = none := I2.hok.fresh (Nat.le_refl _)
  have ne0 : it ≠ s2.heap.objs.size := Nat.ne_of_lt lt2
  have I3 : Inv X pins σ (upd H1 s2.heap.objs.size (.lst [])) { s2 with heap := s2.heap.push { cls := .type "list", data := .seq ([] : List Value).toArray } } :=
    I2.laid (t' := s2.toks) (fun b o e => Heap.get?_push_of_some _ e) (Nat.le_refl _) ⟨Nat.zero_le _, [], 0, .nil, Heap.get?_push_size _ rfl⟩
  have itr3 : (s2.heap.push { cls := .type "list", data := .seq ([] : List Value).toArray }).IsListIter it a 0 := by
    obtain ⟨o, e, c, d⟩ := itr
    exact ⟨o, Heap.get?_push_of_some _ e, c, d⟩
  have lt3 : it < (s2.heap.push { cls := .type "list", data := .seq ([] : List Value).toArray }).objs.size := by
    rw [Heap.size_push]
    exact Nat.lt_succ_of_lt lt2
  generalize s2.heap.objs.size = D at nD ne0 I3 ⊢
  have fp3 : FpOk X pins (upd H1 D (.lst [])) it := ⟨by rw [upd_ne ne0]; exact fpI.1, fpI.2⟩
  generalize es3 : ({ s2 with heap := s2.heap.push { cls := .type "list", data := .seq ([] : List Value).toArray } } : Shared) = s3 at I3 ⊢
  have itr3 : s3.heap.IsListIter it a 0 := by rw [← es3]; exact itr3
  have lt3 : it < s3.heap.objs.size := by rw [← es3]; exact lt3
  have ed : s3.drawn = s2.drawn ∧ s3.gens = s2.gens ∧ s3.toks = s2.toks ∧ s3.os = s2.os := by rw [← es3]; exact ⟨rfl, rfl, rfl, rfl⟩
  have frs3 : ∀ b ∈ [it], FpOk X pins (upd H1 D (.lst [])) b ∧ b < s3.heap.objs.size := fun b hb => by rw [List.mem_singleton.mp hb]; exact ⟨fp3, lt3⟩
  have I4 := block_start I3 okb nd frs3
  obtain ⟨hp, hpn, hah, hvs, hfd, hnn⟩ := hotX
  have pin3 := I3.pin hp (List.mem_append_left _ hpn)
  have nostk : hp.1 ∉ frs X.stack := fun hm => (List.mem_cons.mp (I3.stkSub hp.1 hm)).elim pin3.2.2.1 pin3.2.2.2.1
  have noit : hp.1 ≠ it := fp3.2.2.2.2.2 hp (List.mem_append_left _ hpn)
  clear es3
  have pg0 := pgAll s3 (upd H1 D (.lst [])) s3.heap.objs.size (cellsFrom (s3.heap.objs.size + 1) scope.names (cloFrom X.env.cells scope.names [])) [it]
  have pe0 := peAll s3 (upd H1 D (.lst [])) s3.heap.objs.size (cellsFrom (s3.heap.objs.size + 1) scope.names (cloFrom X.env.cells scope.names [])) [it]
  let ce := compEnvC scope (cellsFrom (s3.heap.objs.size + 1) scope.names (cloFrom X.env.cells scope.names [])) s3.heap.objs.size X.env
  have locs : ce.locals = s3.heap.objs.size := rfl
  have noC : upd H1 D (.lst []) s3.heap.objs.size = none := I3.hok.fresh (Nat.le_refl _)
  have fpC := I3.fpOk (H' := upd H1 D (.lst [])) (Nat.le_refl s3.heap.objs.size) noC
  have neDC : s3.heap.objs.size ≠ D := fun z => by
    rw [z, upd_same] at noC
    exact nomatch noC
  have noC1 : H1 s3.heap.objs.size = none := by
    rw [upd_ne neDC] at noC
    exact noC
  show codeAny _ _ (.compStart (.ListComp elt [⟨tg, iter, [], 0⟩] scope pos) 0 (.ref it) (.ref D) ce) (compPost (model X.prog X.w) X.A X.xe none (EP X pins σ Q) (.ref D) s3.heap.objs.size) _
  have itr4 : (pushCells (s3.heap.push { cls := .type "dict", data := .dict #[] }) scope.names).IsListIter it a 0 := by
    obtain ⟨o, e, c, d⟩ := itr3
    exact ⟨o, pushCells_keeps _ _ _ _ (Heap.get?_push_of_some _ e), c, d⟩
  generalize es4 : ({ s3 with heap := pushCells (s3.heap.push { cls := .type "dict", data := .dict #[] }) scope.names } : Shared) = s4 at I4 ⊢
  have itr4 : s4.heap.IsListIter it a 0 := by rw [← es4]; exact itr4
  clear es4
  have twice : ∀ (o o' : HO), upd (upd H1 D o) D o' = upd H1 D o' := fun o o' => by
    funext b
    by_cases e : b = D
    · rw [e, upd_same, upd_same]
    · rw [upd_ne e, upd_ne e, upd_ne e]
  have oldKept : ∀ o : HO, Same H1 (upd H1 D o) := fun o b u e => by rw [upd_ne (ne_of_none e nD)]; exact e
  have itFree : ∀ o : HO, upd H1 D o it = none := fun o => by rw [upd_ne ne0]; exact fpI.1
  have hotAt : ∀ {σ5 : St} {H5 : Hp} {s5 : Shared}, Inv (X.blk s3 (upd H1 D (.lst [])) scope ce [it]) [] σ5 H5 s5 → HotAt X.A hp.1 s5.heap := fun I5 =>
    ⟨hah, hp.2, hvs, I5.base.keep hp.1 hp.2 pin3.1 pin3.2.1 nostk (fun hm => noit (List.mem_singleton.mp hm)), hfd, hnn⟩
  have fixed : ∀ {σ5 : St} {H5 : Hp} {s5 : Shared}, Inv (X.blk s3 (upd H1 D (.lst [])) scope ce [it]) [] σ5 H5 s5 → H5 it = none → FpOk (X.blk s3 (upd H1 D (.lst [])) scope ce [it]) [] H5 it := fun I5 hn =>
    ⟨hn, (I5.ok.exf it List.mem_cons_self).1, I5.ok.exfs it List.mem_cons_self, .inl List.mem_cons_self, fun x c e => (I5.ok.exf it List.mem_cons_self).2 x c e, fun p hp => nomatch hp⟩
  have main : codeAny (model X.prog X.w) X.A (.compLoop (.ListComp elt [⟨tg, iter, [], 0⟩] scope pos) 0 (.ref it) (.ref D) ce) (compPost (model X.prog X.w) X.A X.xe none (EP X pins σ Q) (.ref D) s3.heap.objs.size) s4 := by
    refine compLoop_any (fun n s' => ∃ i, n = xs.length - i ∧ i ≤ xs.length ∧ Inv (X.blk s3 (upd H1 D (.lst [])) scope ce [it]) [] (wipe σ (own.map (·.2))) (upd H1 D (.lst ((xs.take i).map f))) s' ∧ s'.heap.IsListIter it a i) ?_ xs.length ⟨0, rfl, Nat.zero_le _, I4, itr4⟩
    rintro n s5 ⟨i, rfl, hi, I5, it5⟩
    obtain ⟨its5, vals5, plain5, _⟩ := I5.list (show SqL X.K _ a xs from (oldKept _).seq sq)
    obtain ⟨f0, f1, f2, f3, f4, f5⟩ := fixed I5 (itFree _)
    have len5 : xs.length = its5.length := vals5.length
    by_cases c : i < xs.length
    · obtain ⟨u, hu, ru⟩ := vals5.get (List.getElem?_eq_getElem c)
      refine wpAny_pyNext_list_item it5 plain5.isList (x := u) (by simpa using hu) fun h' next sb => ?_
      have I6 := I5.turned (h' := h') (t' := s5.toks) (fun b o hb e => (sb.2 b hb).trans e) f0 f1 f3 f4 f5
      obtain ⟨oi, ei, ci, di⟩ := next
      refine go_of (s := { s5 with heap := h' }) ei ci di (by decide) ?_
      have I6p := I6.pinned (fp := [it]) (fun b hb => by rw [List.mem_singleton.mp hb]; exact fixed I6 (itFree _)) (fun b hb => by rw [List.mem_singleton.mp hb]; exact ⟨oi, ei, fun v z => by rw [di] at z; cases z⟩)
      refine thnF (pg0.run _ _ _ _ xs[i] u _ I6p ru (each _ (List.getElem_mem c) _)) fun _ s7 ⟨σ7, H7, I7, hw, q7⟩ => ?_
      refine wpAny_tests_nil ?_
      rw [if_pos rfl]
      refine thnF (pe0.run _ s7 σ7 H7 _ I7 q7) fun z s8 ⟨yv, H8, I8, r8, ez, eH⟩ => ?_
      subst ez eH
      refine app_ok (X := X.blk s3 (upd H1 D (.lst [])) scope ce [it]) I8 upd_same (by rw [List.length_map, List.length_take]; omega) r8 fun s9 I9 => ?_
      have pinned := (I9.pin (it, oi) (List.mem_append_right _ (List.mem_append_right _ (mem_pinsAt List.mem_cons_self ei)))).1
      refine ⟨xs.length - (i + 1), by omega, i + 1, rfl, c, ?_, ⟨oi, pinned, ci, di⟩⟩
      have I10 := (I9.unpinned (pins := [])).weak (σ' := wipe σ (own.map (·.2))) (by rw [← hw, wipe_length]) fun j v e => by
        rw [← hw] at e
        exact (wipe_some e).1
      rw [twice, show (xs.take i).map f ++ [f xs[i]] = (xs.take (i + 1)).map f by rw [List.take_succ, List.getElem?_eq_getElem c, List.map_append]; rfl] at I10
      exact I10
    · obtain rfl : i = xs.length := by omega
      refine list_over_hot (hotAt I5) it5 plain5.isList (by simp; omega) fun h' kept => ?_
      have I6 := I5.turned (h' := h') (t' := s5.toks) kept f0 f1 f3 f4 f5
      have I7 : Inv X pins σ _ _ := I3.call' (ch := [it]) I6.os I6.base I6.hok I6.bare fun b hb => by
        have z := (frs3 b hb).1
        exact ⟨z.2.2.2.1, z.2.1, z.2.2.2.2.1, z.2.2.2.2.2⟩
      obtain ⟨m, hns, _⟩ := I6.loc
      obtain ⟨_, c1, c2, c3, c4, c5⟩ := fpC
      refine ⟨m, hns, fun h2 sb => ⟨.ref D, _, I7.turned (t' := s5.toks) (fun b o hb e => (sb.2 b hb).trans e) ?_ c1 c3 c4 c5, rfl, ?_⟩⟩
      · rw [upd_ne neDC]
        exact noC1
      · rw [List.take_length]
        exact q D nD
  exact codeAny_compStart_list main (wpAny_pyIter_listiter itr4 main)
end L2
namespace L2
open PySem PySem.Spec PyProof.Rows
/-- a def whose errors have no context -/
theorem Fun.okXN {P : Program} {w : World} {K : PySem.W.Frag} {mg : Str → Option Value} {base : Heap} {x qual : Str} {st : Stmt} {f : Addr} {fd : FuncData} {N ps : List Str} {k : Nat} {sp : Sp} (F : Fun K x qual st f fd) (S : FnScope N ps (defScope st))
    (len : ∀ vs H Q E, sp vs H Q E → vs.length = ps.length)
    (body : ∀ (cdv : Value) (A : Around) (outer : List Env) (s : Shared) (H : Hp) (vs : List V) (Q : VK) (E : XK), Room k (A.deeper (envOfC qual (defScope st) s.heap.objs.size f cdv)) → sp vs H Q E →
      ∃ t, PSs (cxOf (L2N.CX P w) P w K mg base N qual (defScope st) f cdv A outer s H E) (defBody st) t ∧ t { nx := fun _ H' => Q .non H', rt := Q } (start N vs) H) : FnOk P w K mg base (L2N.CX P w) (k + 1) f fd ps sp := by
  obtain ⟨_, _, _, _, _, _, _, _, _, rfl, known, coded⟩ := F.ex
  exact fn_of known coded S len fun A outer s H vs Q E room hsp => body _ A outer s H vs Q E room hsp
/-- what an except suite knows -/
theorem hotS_of {X : Cx} {a : Addr} {oe : Obj} {pn : List (Addr × Obj)} {cls : Value} {d : Option Addr} (hz : L2N.Zn cls d oe) (hf : ∃ vs, oe.data = .fields vs) : HotS (X.suite a ((a, oe) :: pn)) := by
  obtain ⟨vs, e⟩ := hf
  exact ⟨(a, oe), List.mem_cons_self, rfl, vs, e, hz.2.2 vs e⟩
end L2
namespace L2
open PySem PySem.Spec PyProof.Rows
theorem passLN {X : Cx} : Passes (L2N.CX X.prog X.w) X E0 := fun _ _ _ _ _ _ _ h => by
  obtain ⟨_, _, _, _, _, _, _, _, _, _, _, _, no⟩ := h
  exact no.elim
theorem takes0N {X : Cx} : L2N.Takes X (fun _ _ _ _ => False) := fun _ _ h => by
  obtain ⟨_, _, _, _, _, _, _, _, _, _, _, _, _, _, _, _, no⟩ := h
  exact no.elim
end L2
namespace L2
open PySem PySem.Spec PyProof.Rows
theorem pe_lcMapK {X : Cx} {K : PySem.W.Frag} {elt tg iter : Expr} {scope : Scope} {own : List (Str × Nat)} {pos : Pos} {tl : TE} {g : TG} {te : TE} (hK : X.K = K) (nd : X.N.Nodup) (walked : PE X iter tl) (okb : BlkOk X.N X.env.scope scope own)
    (pgAll : ∀ (s : Shared) (H : Hp) (C : Addr) (cl : List (Str × Addr)) (fp : List Addr), PG (X.blk s H scope (compEnvC scope cl C X.env) fp) tg g)
    (peAll : ∀ (s : Shared) (H : Hp) (C : Addr) (cl : List (Str × Addr)) (fp : List Addr), PE (X.blk s H scope (compEnvC scope cl C X.env) fp) elt te) (hotX : HotS X)
    (fold : ∀ x, foldedSetIterable iter X.env x = pure x := by intro _; rfl) : PE X (.ListComp elt [⟨tg, iter, [], 0⟩] scope pos) (tLcMap K tl g te (own.map (·.2))) := by
  subst hK
  exact pe_lcMap hotX nd walked okb pgAll peAll fold
end L2

/-! ### the difference of two sets of small ints -/
namespace L2
open PySem PySem.Spec PyProof.Rows
namespace SD
/-! tables -/
def it (m : Nat) : Nat → Nat → Nat
  | i, 0 => i
  | i, k + 1 => it m ((i * 5 + 1) % (m + 1)) k
def roundB (m : Nat) : Bool := (List.range (m + 1)).all fun i => (List.range (m + 1)).all fun j => (List.range (m + 1)).any fun k => it m i k == j
theorem round_ok {m : Nat} (hm : m = 7 ∨ m = 15 ∨ m = 31 ∨ m = 63) : roundB m = true := by
  rcases hm with rfl | rfl | rfl | rfl <;> decide +kernel
theorem it_all {m i j : Nat} (hm : m = 7 ∨ m = 15 ∨ m = 31 ∨ m = 63) (hi : i ≤ m) (hj : j ≤ m) : ∃ k, k ≤ m ∧ it m i k = j := by
  have h1 := List.all_eq_true.mp (round_ok hm) i (List.mem_range.mpr (by omega))
  have h2 := List.all_eq_true.mp h1 j (List.mem_range.mpr (by omega))
  obtain ⟨k, hk, e⟩ := List.any_eq_true.mp h2
  have := List.mem_range.mp hk
  exact ⟨k, by omega, beq_iff_eq.mp e⟩
def occ (owner : Array (Option Nat)) (j : Nat) : Bool := (owner.getD j (some 0)).isNone
theorem free_cons (m : Nat) (owner : Array (Option Nat)) (f i b : Nat) : SetTable.layClean.free m owner (f + 1) i b = match (List.range (SetTable.runEnd m i + 1 - i)).find? (fun k => occ owner (i + k)) with
    | some k => some (i + k)
    | none => SetTable.layClean.free m owner f (SetTable.leap m i b).1 (SetTable.leap m i b).2 := by
  rw [SetTable.layClean.free]
  rfl
theorem free_is (m : Nat) (owner : Array (Option Nat)) : ∀ (f i b j : Nat), SetTable.layClean.free m owner f i b = some j → occ owner j = true
  | 0, i, b, j, h => by rw [SetTable.layClean.free] at h; cases h
  | f + 1, i, b, j, h => by
    rw [free_cons] at h
    cases e : (List.range (SetTable.runEnd m i + 1 - i)).find? (fun k => occ owner (i + k)) with
    | some k =>
      rw [e] at h
      have := List.find?_some e
      obtain rfl := Option.some.inj h
      exact this
    | none =>
      rw [e] at h
      exact free_is m owner f _ _ j h
theorem free_no (m : Nat) (owner : Array (Option Nat)) : ∀ (f i b : Nat), b < 32 → SetTable.layClean.free m owner f i b = none → ∀ k, k < f → occ owner (it m i k) = false
  | 0, i, b, hb, h, k, hk => absurd hk (Nat.not_lt_zero k)
  | f + 1, i, b, hb, h, k, hk => by
    rw [free_cons] at h
    cases e : (List.range (SetTable.runEnd m i + 1 - i)).find? (fun k => occ owner (i + k)) with
    | some k => rw [e] at h; cases h
    | none =>
      rw [e] at h
      have hz : b / 32 = 0 := Nat.div_eq_of_lt hb
      have el : SetTable.leap m i b = ((i * 5 + 1) % (m + 1), 0) := by
        unfold SetTable.leap
        rw [hz]
      cases k with
      | zero =>
        have := List.find?_eq_none.mp e 0 (List.mem_range.mpr (by unfold SetTable.runEnd; split <;> omega))
        rw [Nat.add_zero] at this
        show occ owner i = false
        exact Bool.not_eq_true _ ▸ this
      | succ k =>
        have h' : SetTable.layClean.free m owner f ((i * 5 + 1) % (m + 1)) 0 = none := by
          rw [el] at h
          exact h
        exact free_no m owner f _ 0 (by decide) h' k (by omega)
theorem set_perm {k : Nat} : ∀ (l : List (Option Nat)) (j : Nat), l[j]? = some none → ((l.set j (some k)).filterMap id).Perm (k :: l.filterMap id)
  | [], j, h => by cases h
  | x :: l, 0, h => by
    obtain rfl : x = none := Option.some.inj h
    exact List.Perm.refl _
  | x :: l, j + 1, h => by
    have ih := set_perm (k := k) l j h
    cases x with
    | none => exact ih
    | some y => exact (ih.cons y).trans (List.Perm.swap k y _)
structure Lay (m : Nat) (owner : Array (Option Nat)) (k : Nat) : Prop where
  sz : owner.size = m + 1
  pm : (owner.toList.filterMap id).Perm (List.range k)
theorem all_some : ∀ (l : List (Option Nat)), (∀ j, j < l.length → l[j]? ≠ some none) → (l.filterMap id).length = l.length
  | [], _ => rfl
  | none :: l, h => absurd rfl (h 0 (Nat.zero_lt_succ _))
  | some y :: l, h => congrArg Nat.succ (all_some l fun j hj => h (j + 1) (Nat.succ_lt_succ hj))
theorem occ_iff {owner : Array (Option Nat)} {j : Nat} : occ owner j = true ↔ owner.toList[j]? = some none := by
  unfold occ
  rw [Array.getElem?_toList, Array.getD_eq_getD_getElem?]
  cases e : owner[j]? with
  | none => simp
  | some x => cases x <;> simp
theorem bits_small {h : Int} (h0 : 0 ≤ h) (h1 : h < 32) : SetTable.bits h < 32 := by
  unfold SetTable.bits
  omega
theorem lay_step {m k : Nat} {owner : Array (Option Nat)} {h : Int} (hm : m = 7 ∨ m = 15 ∨ m = 31 ∨ m = 63) (L : Lay m owner k) (hk : k ≤ m) (h0 : 0 ≤ h) (h1 : h < 32) :
    ∃ owner', stepF m (some (owner, k)) h = some (owner', k + 1) ∧ Lay m owner' (k + 1) := by
  cases e : SetTable.layClean.free m owner (SetTable.turns m) (SetTable.bits h % (m + 1)) (SetTable.bits h) with
  | none =>
    exfalso
    have no := free_no m owner _ _ _ (bits_small h0 h1) e
    have len : (owner.toList.filterMap id).length = owner.toList.length := all_some _ fun j hj z => by
      rw [Array.length_toList, L.sz] at hj
      obtain ⟨c, hc, ec⟩ := it_all hm (i := SetTable.bits h % (m + 1)) (j := j) (Nat.le_of_lt_succ (Nat.mod_lt _ (Nat.succ_pos m))) (by omega)
      have := no c (by unfold SetTable.turns; omega)
      rw [ec, occ_iff.mpr z] at this
      cases this
    rw [L.pm.length_eq, List.length_range, Array.length_toList, L.sz] at len
    omega
  | some j =>
    have hj := occ_iff.mp (free_is m owner _ _ _ _ e)
    refine ⟨owner.setIfInBounds j (some k), stepF_some e, by rw [Array.size_setIfInBounds]; exact L.sz, ?_⟩
    rw [Array.toList_setIfInBounds, List.range_succ]
    exact (set_perm _ _ hj).trans ((L.pm.cons k).trans (List.perm_append_singleton k _).symm)
theorem lay_fold {m : Nat} (hm : m = 7 ∨ m = 15 ∨ m = 31 ∨ m = 63) : ∀ (hs : List Int) (k : Nat) (owner : Array (Option Nat)), Lay m owner k → (∀ h ∈ hs, 0 ≤ h ∧ h < 32) → k + hs.length ≤ m + 1 →
    ∃ owner', hs.foldl (stepF m) (some (owner, k)) = some (owner', k + hs.length) ∧ Lay m owner' (k + hs.length)
  | [], k, owner, L, _, _ => ⟨owner, rfl, L⟩
  | h :: hs, k, owner, L, hb, hn => by
    rw [List.length_cons] at hn
    obtain ⟨o1, e1, L1⟩ := lay_step hm L (by omega) (hb h List.mem_cons_self).1 (hb h List.mem_cons_self).2
    obtain ⟨o2, e2, L2⟩ := lay_fold hm hs (k + 1) o1 L1 (fun x hx => hb x (List.mem_cons_of_mem _ hx)) (by omega)
    refine ⟨o2, ?_, ?_⟩
    · rw [List.foldl_cons, e1, e2, List.length_cons]
      congr 2
      omega
    · rw [List.length_cons, show k + (hs.length + 1) = k + 1 + hs.length by omega]
      exact L2
theorem fm_congr {α β : Type} {f g : α → Option β} : ∀ {l : List α}, (∀ x ∈ l, f x = g x) → l.filterMap f = l.filterMap g
  | [], _ => rfl
  | x :: l, h => by
    rw [List.filterMap_cons, List.filterMap_cons, h x List.mem_cons_self, fm_congr fun y hy => h y (List.mem_cons_of_mem _ hy)]
theorem live_snd (l : List (Option Nat)) : ((List.range l.length).filterMap fun j => (l.getD j none).map fun x => (j, x)).map (·.2) = l.filterMap id := by
  induction l with
  | nil => rfl
  | cons x l ih =>
    rw [List.length_cons, List.range_succ_eq_map, List.filterMap_cons, List.filterMap_map]
    have e : ((List.range l.length).filterMap ((fun j => ((x :: l).getD j none).map fun y => (j, y)) ∘ Nat.succ)).map (·.2) = l.filterMap id := by
      rw [← ih, List.map_filterMap, List.map_filterMap]
      refine fm_congr fun j _ => ?_
      show Option.map _ (Option.map _ ((x :: l).getD (j + 1) none)) = _
      rw [List.getD_cons_succ, Option.map_map, Option.map_map]
      rfl
    cases x with
    | none => exact e
    | some y =>
      show y :: _ = y :: _
      rw [e]
theorem laid_ok {m finger moves : Nat} {led plain : Bool} {hs : Array Int} (hm : m = 7 ∨ m = 15 ∨ m = 31 ∨ m = 63) (hb : ∀ h ∈ hs.toList, 0 ≤ h ∧ h < 32) (hn : hs.size ≤ m) :
    ∃ t order, SetTable.laid m finger moves led plain hs = some (t, order) ∧ order.toList.Perm (List.range hs.size) ∧ t.fits hs.size = true ∧ t.mask = m ∧ t.dummies = #[] := by
  have L0 : Lay m (Array.replicate (m + 1) none) 0 := ⟨Array.size_replicate, by
    rw [Array.toList_replicate]
    have : ∀ n, (List.replicate n (none : Option Nat)).filterMap id = [] := fun n => by
      induction n with
      | zero => rfl
      | succ n ih => rw [List.replicate_succ]; exact ih
    rw [this]
    exact .refl _⟩
  obtain ⟨owner, e, L⟩ := lay_fold hm hs.toList 0 _ L0 hb (by rw [Array.length_toList]; omega)
  rw [Nat.zero_add, Array.length_toList] at e L
  have ec : SetTable.layClean m hs = some owner := by
    rw [layClean_eq, e]
    rfl
  have eg : ∀ j, owner.getD j none = owner.toList.getD j none := fun j => by
    rw [Array.getD_eq_getD_getElem?, List.getD_eq_getElem?_getD, Array.getElem?_toList]
  have el : (List.range (m + 1)).filterMap (fun j => (owner.getD j none).map fun x => (j, x)) = (List.range owner.toList.length).filterMap fun j => (owner.toList.getD j none).map fun x => (j, x) := by
    rw [Array.length_toList, L.sz]
    exact fm_congr fun j _ => by rw [eg]
  have pm : (((List.range (m + 1)).filterMap fun j => (owner.getD j none).map fun x => (j, x)).map (·.2)).Perm (List.range hs.size) := by
    rw [el, live_snd]
    exact L.pm
  have lenl : ((List.range (m + 1)).filterMap fun j => (owner.getD j none).map fun x => (j, x)).length = hs.size := by
    have := pm.length_eq
    rw [List.length_map, List.length_range] at this
    exact this
  refine ⟨{ mask := m, place := (((List.range (m + 1)).filterMap fun j => (owner.getD j none).map fun x => (j, x)).map (·.1)).toArray, dummies := #[], finger, led, moves, plain }, (((List.range (m + 1)).filterMap fun j => (owner.getD j none).map fun x => (j, x)).map (·.2)).toArray, ?_, pm, ?_, rfl, rfl⟩
  · unfold SetTable.laid
    rw [ec]
    rfl
  · unfold SetTable.fits SetTable.fill
    dsimp only
    rw [List.size_toArray, List.length_map, lenl]
    simp [hn]
end SD
end L2

namespace L2
open PySem PySem.Spec PyProof.Rows
namespace SD
/-- a set of ints, as it stands -/
structure Is (h : Heap) (a : Addr) (es : Array (Int × Value)) (ep : Nat) (t : SetTable) : Prop where
  at' : ∃ o, h.get? a = some o ∧ o.ExactSet ∧ o.data = .set es ep t
  good : ∀ e ∈ es.toList, GoodE e
  nd : (es.toList.map keyOf).Nodup
  lt : es.size < scanBound
  fit : t.fits es.size = true
theorem Is.of {w : World} {h : Heap} {a : Addr} {S : Int → Bool} {n : Nat} (R : SetR w h a S n) :
    ∃ es ep t, Is h a es ep t ∧ (∀ k, S k = true ↔ k ∈ es.toList.map keyOf) ∧ es.size = n ∧ (w.params.followText "set-order" = true ∨ t.led = true) := by
  obtain ⟨o, es, ep, t, ho, hx, hd, g, nd, hm, hb, hf, hn, _, hl⟩ := R
  exact ⟨es, ep, t, ⟨⟨o, ho, hx, hd⟩, g, nd, hb, hf⟩, hm, hn, hl⟩
theorem Is.same {h h' : Heap} {a b : Addr} {es : Array (Int × Value)} {ep : Nat} {t : SetTable} (I : Is h a es ep t) (s : Heap.SameBut b h h') (ne : a ≠ b) : Is h' a es ep t := by
  obtain ⟨⟨o, ho, r⟩, g, nd, lt, f⟩ := I
  exact ⟨⟨o, by rw [s.2 a ne]; exact ho, r⟩, g, nd, lt, f⟩
theorem Is.keep {h h' : Heap} {a : Addr} {es : Array (Int × Value)} {ep : Nat} {t : SetTable} (I : Is h a es ep t) (k : ∀ o, h.get? a = some o → h'.get? a = some o) : Is h' a es ep t := by
  obtain ⟨⟨o, ho, r⟩, g, nd, lt, f⟩ := I
  exact ⟨⟨o, k o ho, r⟩, g, nd, lt, f⟩
theorem Is.type {s : Shared} {a : Addr} {es : Array (Int × Value)} {ep : Nat} {t : SetTable} (I : Is s.heap a es ep t) : s.TypeIs (.ref a) "set" := by
  obtain ⟨⟨o, ho, hx, _⟩, _⟩ := I
  exact ⟨o, ho, hx.1⟩
section
variable {P : Program} {w : World} {A : Around} {E : Value → Shared → Prop} {s : Shared} {a : Addr} {es : Array (Int × Value)} {ep : Nat} {t : SetTable}
theorem state (I : Is s.heap a es ep t) {Q : (Array (Int × Value) × Nat × SetTable) → Shared → Prop} (h : Q (es, ep, t) s) : wpAny (model P w) A (setState a) Q E s := by
  obtain ⟨⟨o, ho, _, hd⟩, _, _, _, f⟩ := I
  exact wpAny_setState_of ho hd f h
theorem epoch (I : Is s.heap a es ep t) {Q : Nat → Shared → Prop} (h : Q ep s) : wpAny (model P w) A (setEpoch a) Q E s := by
  obtain ⟨⟨o, ho, _, hd⟩, _, _, _, f⟩ := I
  exact wpAny_setEpoch_of ho hd f h
theorem entries (I : Is s.heap a es ep t) {Q : Array (Int × Value) → Shared → Prop} (h : Q es s) : wpAny (model P w) A (setEntries a) Q E s := by
  obtain ⟨⟨o, ho, _, hd⟩, _, _, _, f⟩ := I
  exact wpAny_setEntries_of ho hd f h
theorem size (I : Is s.heap a es ep t) {Q : Nat → Shared → Prop} (h : Q es.size s) : wpAny (model P w) A (Builtin.Frozenset.sizeOf a) Q E s := by
  unfold Builtin.Frozenset.sizeOf
  exact wpAny_bind (entries I (wpAny_pure h))
theorem anySet (I : Is s.heap a es ep t) {Q : Bool → Shared → Prop} (h : Q true s) : wpAny (model P w) A (Builtin.Frozenset.isAnySet (.ref a)) Q E s := by
  unfold Builtin.Frozenset.isAnySet
  have z := I.type
  have hs := sub_set_self
  obtain ⟨hp, g, d, tk, os⟩ := s
  refine wpAny_bind (m := isInstance (.ref a) (.type "set")) (wpAny_isInstance z hs ?_)
  exact wpAny_pure h
theorem base (I : Is s.heap a es ep t) {Q : Value → Shared → Prop} (h : Q (.type "set") s) : wpAny (model P w) A (Builtin.Frozenset.baseOf a) Q E s := by
  unfold Builtin.Frozenset.baseOf
  exact wpAny_bind (wpAny_isInstance I.type sub_set_self (wpAny_pure h))
theorem not_ref {e : Int × Value} (g : GoodE e) : ∀ b, e.2 ≠ .ref b := fun b z => by
  obtain ⟨k, tk, e1, _⟩ := g
  rw [e1] at z
  cases z

theorem quiet {l : List Addr} {Q : Bool → Shared → Prop} (hl : ∀ b ∈ l, ∃ es ep t, Is s.heap b es ep t) (h : Q true s) : wpAny (model P w) A (setsQuiet l) Q E s := by
  unfold setsQuiet
  refine wpAny_bind (wpAny_forIn_list _ (fun rest (x : Option Bool × Unit) s' => s' = s ∧ x.1 = none ∧ ∀ c ∈ rest, c ∈ l) _ (fun c rest x s1 hI => ?_) (fun x s1 hI => ?_) l (none, ()) ⟨rfl, rfl, fun c hc => hc⟩)
  · obtain ⟨rfl, hx, hc⟩ := hI
    obtain ⟨es, ep, t, I⟩ := hl c (hc c List.mem_cons_self)
    refine wpAny_bind (entries I ?_)
    refine wpAny_bind (wpAny_forIn_array' _ (fun rest (x : Option Bool × Unit) s' => s' = s1 ∧ x = (none, ()) ∧ ∀ e ∈ rest, GoodE e) _ (fun e rest x s2 hJ => ?_) (fun x s2 hJ => ?_) es (none, ()) ⟨rfl, rfl, I.good⟩)
    · obtain ⟨rfl, rfl, hg⟩ := hJ
      obtain ⟨k, tk, e1, _⟩ := hg e List.mem_cons_self
      obtain ⟨e0, e2⟩ := e
      dsimp only at e1
      subst e1
      exact wpAny_pure ⟨rfl, rfl, fun y hy => hg y (List.mem_cons_of_mem _ hy)⟩
    · obtain ⟨rfl, rfl, _⟩ := hJ
      exact wpAny_pure ⟨rfl, rfl, fun y hy => hc y (List.mem_cons_of_mem _ hy)⟩
  · obtain ⟨rfl, hx, _⟩ := hI
    obtain ⟨x1, x2⟩ := x
    dsimp only at hx
    subst hx
    exact wpAny_pure h
/-- the order in which a set is gone through: any -/
theorem walk0 (I : Is s.heap a es ep t) (hl : w.params.followText "set-order" = true ∨ t.led = true) (hp : w.params.followText "set-order" = true ∨ (t.plain = true ∨ es.size ≤ 1)) {Q : Array (Int × Value) → Shared → Prop}
    (h : ∀ es' : Array (Int × Value), es'.toList.Perm es.toList → Q es' s) : wpAny (model P w) A (setWalk a) Q E s := by
  unfold setWalk
  refine wpAny_bind (state I ?_)
  dsimp only
  refine wpAny_bind (wpAny_byText ?_)
  by_cases c : w.params.followText "set-order" = true
  · refine wp_if_pos c ?_
    exact wpAny_bind (wpAny_askSetting (wpAny_pure (h _ (pick_perm _ _))))
  · refine wp_if_neg c ?_
    try refine wpAny_bind (wpAny_pure ?_)
    have hl := hl.resolve_left c
    have hp := hp.resolve_left c
    refine wp_if_neg (by
      show ¬ ((!t.plain && decide (es.size > 1)) = true)
      rcases hp with z | z
      · rw [z]; exact Bool.false_ne_true
      · rw [decide_eq_false (by omega), Bool.and_false]; exact Bool.false_ne_true) ?_
    try refine wpAny_bind (wpAny_pure ?_)
    refine wpAny_bind (wpAny_of_eq (a := ()) ?_ ?_)
    · show (if (!t.led && decide (es.size > 1)) = true then unsupported "set:maker-not-led" else pure ()) = pure ()
      rw [hl]
      rfl
    · exact wpAny_pure (h _ (List.Perm.refl _))
theorem walkN (I : Is s.heap a es ep t) (hl : w.params.followText "set-order" = true ∨ t.led = true) {others : List Addr} (ho : ∀ b ∈ others, ∃ es ep t, Is s.heap b es ep t) {Q : Array (Int × Value) → Shared → Prop}
    (h : ∀ es' : Array (Int × Value), es'.toList.Perm es.toList → Q es' s) : wpAny (model P w) A (setWalkUnseen a others none) Q E s := by
  unfold setWalkUnseen
  refine wpAny_bind (state I ?_)
  dsimp only
  refine wpAny_bind (wpAny_byText ?_)
  by_cases c : (w.params.followText "set-order" || t.led && t.plain || decide (es.size ≤ 1)) = true
  · refine wp_if_pos c (walk0 I hl ?_ h)
    rw [Bool.or_eq_true, Bool.or_eq_true, Bool.and_eq_true, decide_eq_true_eq] at c
    rcases c with (z | z) | z
    · exact .inl z
    · exact .inr (.inl z.2)
    · exact .inr (.inr z)
  · refine wp_if_neg c ?_
    refine wpAny_bind (quiet (l := a :: others) (fun b hb => ?_) ?_)
    · rcases List.mem_cons.mp hb with rfl | hb
      · exact ⟨_, _, _, I⟩
      · exact ho b hb
    · refine wp_if_neg (by simp) ?_
      refine wpAny_bind (wpAny_rule ?_)
      exact wpAny_pure (h _ (List.Perm.refl _))
theorem walkF (I : Is s.heap a es ep t) (hl : w.params.followText "set-order" = true ∨ t.led = true) {others : List Addr} (ho : ∀ b ∈ others, ∃ es ep t, Is s.heap b es ep t) {r : Addr} {S : Int → Bool} {n : Nat} (R : SetR w s.heap r S n)
    {Q : Array (Int × Value) → Shared → Prop}
    (h : ∀ (es' : Array (Int × Value)) h', es'.toList.Perm es.toList → Heap.SameBut r s.heap h' → SetR w h' r S n → Q es' { s with heap := h' }) : wpAny (model P w) A (setWalkUnseen a others (some r)) Q E s := by
  unfold setWalkUnseen
  have h0 : ∀ es' : Array (Int × Value), es'.toList.Perm es.toList → Q es' s := fun es' p => h es' s.heap p (Heap.SameBut.refl r s.heap) R
  refine wpAny_bind (state I ?_)
  dsimp only
  refine wpAny_bind (wpAny_byText ?_)
  by_cases c : (w.params.followText "set-order" || t.led && t.plain || decide (es.size ≤ 1)) = true
  · refine wp_if_pos c (walk0 I hl ?_ h0)
    rw [Bool.or_eq_true, Bool.or_eq_true, Bool.and_eq_true, decide_eq_true_eq] at c
    rcases c with (z | z) | z
    · exact .inl z
    · exact .inr (.inl z.2)
    · exact .inr (.inr z)
  · refine wp_if_neg c ?_
    refine wpAny_bind (quiet (l := a :: others) (fun b hb => ?_) ?_)
    · rcases List.mem_cons.mp hb with rfl | hb
      · exact ⟨_, _, _, I⟩
      · exact ho b hb
    · refine wp_if_neg (by simp) ?_
      refine wpAny_bind (wpAny_rule ?_)
      try dsimp only
      obtain ⟨o, er, epr, tr, hor, hx, hd, g, nd, hm, hb, hf, hn, hr, hlr⟩ := R
      refine wpAny_bind (wpAny_setState_of hor hd hf ?_)
      dsimp only
      split
      · refine wpAny_bind (wpAny_storeSet_of hor hd ?_ (fits_of_scanBound hb))
        refine wpAny_pure (h _ _ (List.Perm.refl _) (Heap.SameBut.update s.heap r _) ⟨_, er, _, _, store_at hor hd, hx, rfl, g, nd, hm, hb, hf, hn, hr, ?_⟩)
        rcases hlr with z | z
        · exact .inl z
        · rcases hl with y | y
          · exact .inl y
          · exact .inr (by rw [z, y]; rfl)
      · exact wpAny_pure (h0 _ (List.Perm.refl _))
end
end SD
end L2

namespace L2
open PySem PySem.Spec PyProof.Rows
namespace SD
section
variable {P : Program} {w : World} {A : Around} {E : Value → Shared → Prop} {s : Shared} {a : Addr} {es : Array (Int × Value)} {ep : Nat} {t : SetTable}
theorem sizeM : ∀ n, n < 32 → 5 ≤ n → (SetTable.sizeAbove ((0 + n) * 2) - 1 = 15 ∨ SetTable.sizeAbove ((0 + n) * 2) - 1 = 31 ∨ SetTable.sizeAbove ((0 + n) * 2) - 1 = 63) ∧ n ≤ SetTable.sizeAbove ((0 + n) * 2) - 1 := by decide +kernel
/-- r, empty: room for n more -/
theorem room_at {r : Addr} {n ep0 : Nat} {led : Bool} (hn : n < 32) (ho : ∃ o, s.heap.get? r = some o ∧ o.ExactSet ∧ o.data = .set #[] ep0 (.fresh 0 0 led)) {Q : Unit → Shared → Prop}
    (h : ∀ h' ep' t', Heap.SameBut r s.heap h' → (∃ o, h'.get? r = some o ∧ o.ExactSet ∧ o.data = .set #[] ep' t') → t'.place = #[] → t'.dummies = #[] → (t'.mask = 7 ∨ t'.mask = 15 ∨ t'.mask = 31 ∨ t'.mask = 63) → n ≤ t'.mask → Q () { s with heap := h' }) :
    wpAny (model P w) A (setRoomFor r n) Q E s := by
  obtain ⟨o, ho, hx, hd⟩ := ho
  have hf : (SetTable.fresh 0 0 led).fits (#[] : Array (Int × Value)).size = true := rfl
  unfold setRoomFor
  refine wpAny_bind (wpAny_setState_of ho hd hf ?_)
  unfold SetTable.roomFor
  by_cases c : n ≤ 4
  · have e : ¬ ((SetTable.fresh 0 0 led).fill + n) * 5 ≥ (SetTable.fresh 0 0 led).mask * 3 := by
      show ¬ (0 + n) * 5 ≥ 7 * 3
      omega
    rw [if_neg e]
    exact wpAny_pure (h s.heap ep0 _ (Heap.SameBut.refl r s.heap) ⟨o, ho, hx, hd⟩ rfl rfl (.inl rfl) (by show n ≤ 7; omega))
  · have e : ((SetTable.fresh 0 0 led).fill + n) * 5 ≥ (SetTable.fresh 0 0 led).mask * 3 := by
      show (0 + n) * 5 ≥ 7 * 3
      omega
    rw [if_pos e]
    obtain ⟨hm, hle⟩ := sizeM n hn (by omega)
    show wpAny _ _ (setRelay r ((0 + n) * 2)) Q E s
    unfold setRelay
    refine wpAny_bind (wpAny_setState_of ho hd hf ?_)
    dsimp only
    refine wp_if_neg (by rw [sizeLine_eq]; omega) ?_
    try refine wpAny_bind (wpAny_pure ?_)
    obtain ⟨t1, order, el, pm, f1, m1, d1⟩ := laid_ok (m := SetTable.sizeAbove ((0 + n) * 2) - 1) (finger := 0) (moves := (SetTable.fresh 0 0 led).movedTo (SetTable.sizeAbove ((0 + n) * 2) - 1)) (led := led) (plain := true) (hs := (#[] : Array Int)) (.inr hm) (fun x hx => by cases hx) (Nat.zero_le _)
    have er : (SetTable.fresh 0 0 led).relaid ((#[] : Array (Int × Value)).map (·.1)) ((0 + n) * 2) = some (t1, order) := by
      unfold SetTable.relaid
      rw [show (#[] : Array (Int × Value)).map (·.1) = #[] from by simp]
      exact el
    have oz : order = #[] := by
      have := pm.length_eq
      rw [Array.length_toList] at this
      exact Array.eq_empty_of_size_eq_zero this
    rw [er, oz]
    have pz : t1.place = #[] := by
      unfold SetTable.fits at f1
      rw [Bool.and_eq_true, beq_iff_eq] at f1
      exact Array.eq_empty_of_size_eq_zero f1.1
    refine wpAny_bind (wpAny_of_eq (a := ((#[] : Array (Int × Value)), t1)) rfl ?_)
    dsimp only
    refine wpAny_storeSet_of ho hd ?_ (Nat.zero_le _)
    exact h _ _ t1 (Heap.SameBut.update s.heap r _) ⟨_, store_at ho hd, hx, rfl⟩ pz d1 (.inr (m1 ▸ hm)) (by rw [m1]; exact hle)
theorem fit_le {t : SetTable} {n : Nat} (h : t.fits n = true) : t.place.size = n ∧ t.fill ≤ t.mask := by
  unfold SetTable.fits at h
  rw [Bool.and_eq_true, beq_iff_eq, decide_eq_true_eq] at h
  exact h
theorem fm_get {α : Type} (l : List α) : (List.range l.length).filterMap (fun i => l[i]?) = l := by
  induction l with
  | nil => rfl
  | cons x l ih =>
    rw [List.length_cons, List.range_succ_eq_map, List.filterMap_cons, List.filterMap_map]
    exact congrArg (x :: ·) ih
theorem order_perm {es : Array (Int × Value)} {order : Array Nat} (pm : order.toList.Perm (List.range es.size)) : (order.filterMap (es[·]?)).toList.Perm es.toList := by
  rw [Array.toList_filterMap]
  have := pm.filterMap (fun i => es[i]?)
  refine this.trans ?_
  have e : (List.range es.size).filterMap (fun i => es[i]?) = es.toList := by
    have := fm_get es.toList
    rw [Array.length_toList] at this
    rw [← this]
    exact fm_congr fun i _ => (Array.getElem?_toList).symm
  rw [e]
theorem hash_all : ∀ n, n < 32 → 0 ≤ hashInt (n : Nat) ∧ hashInt (n : Nat) < 32 := by decide +kernel
theorem hash_small {k : Int} (h0 : 0 ≤ k) (h1 : k < 32) : 0 ≤ hashInt k ∧ hashInt k < 32 := by
  obtain ⟨n, rfl⟩ := Int.eq_ofNat_of_zero_le h0
  exact hash_all n (by omega)
/-- a copy -/
theorem copy_at (I : Is s.heap a es ep t) (hn : es.size < 32) (hk : ∀ k ∈ es.toList.map keyOf, 0 ≤ k ∧ k < 32) {Q : Value → Shared → Prop}
    (h : ∀ h' es' ep' t', (∀ b o, s.heap.get? b = some o → h'.get? b = some o) → Is h' s.heap.objs.size es' ep' t' → es'.toList.Perm es.toList → t'.dummies = #[] → es.size ≤ t'.mask → Q (.ref s.heap.objs.size) { s with heap := h' }) :
    wpAny (model P w) A (Builtin.Frozenset.copyOf a) Q E s := by
  unfold Builtin.Frozenset.copyOf
  refine wpAny_bind (base I ?_)
  refine wpAny_bind (wpAny_newSet_of (knd := intKind P w) fun led _ => ?_)
  unfold Builtin.Frozenset.addrOf
  refine wpAny_bind (wpAny_pure ?_)
  have hlt : a < s.heap.objs.size := by
    obtain ⟨⟨o, ho, _⟩, _⟩ := I
    exact Heap.lt_size ho
  have hne : a ≠ s.heap.objs.size := Nat.ne_of_lt hlt
  have hr0 : (s.heap.push { cls := .type "set", dict := none, data := .set #[] 0 (.fresh 0 0 led) }).get? s.heap.objs.size = some { cls := .type "set", dict := none, data := .set #[] 0 (.fresh 0 0 led) } := Heap.get?_push_size _ rfl
  have k0 : ∀ b o, s.heap.get? b = some o → (s.heap.push { cls := .type "set", dict := none, data := .set #[] 0 (.fresh 0 0 led) }).get? b = some o := fun b o e => Heap.get?_push_of_some _ e
  generalize s.heap.push { cls := .type "set", dict := none, data := .set #[] 0 (.fresh 0 0 led) } = h0 at hr0 k0 ⊢
  have I0 : Is h0 a es ep t := I.keep (k0 a)
  have keep : ∀ {h'}, Heap.SameBut s.heap.objs.size h0 h' → ∀ b o, s.heap.get? b = some o → h'.get? b = some o := fun {h'} sb b o e => by
    rw [sb.2 b (Nat.ne_of_lt (Heap.lt_size e))]
    exact k0 b o e
  unfold setMerge
  refine wpAny_bind ?_
  refine wp_if_neg (by simpa using fun z : s.heap.objs.size = a => hne z.symm) ?_
  try refine wpAny_bind (wpAny_pure ?_)
  refine wpAny_bind (state (s := { s with heap := h0 }) I0 ?_)
  dsimp only
  by_cases ce : es.isEmpty = true
  · refine wp_if_pos ce ?_
    have ez : es = #[] := by simpa using ce
    subst ez
    exact wpAny_pure (wpAny_pure (h h0 #[] 0 _ k0 ⟨⟨_, hr0, ⟨rfl, rfl, rfl⟩, rfl⟩, fun e he => by simp at he, List.Pairwise.nil, by decide, rfl⟩ (.refl _) rfl (Nat.zero_le _)))
  · refine wp_if_neg ce ?_
    try refine wpAny_bind (wpAny_pure ?_)
    refine wpAny_bind (room_at (s := { s with heap := h0 }) hn ⟨_, hr0, ⟨rfl, rfl, rfl⟩, rfl⟩ fun h1 ep1 t1 sb1 ho1 p1 d1 m1 l1 => ?_)
    obtain ⟨o1, ho1, hx1, hd1⟩ := ho1
    have I1 : Is h1 a es ep t := I0.same sb1 hne
    refine wpAny_bind (wpAny_setState_of (s := { s with heap := h1 }) ho1 hd1 (by unfold SetTable.fits SetTable.fill; rw [p1, d1]; simp) ?_)
    dsimp only
    have fz : ¬ ((t1.fill != 0) = true) := by
      unfold SetTable.fill
      rw [p1, d1]
      simp
    unfold SetTable.road
    rw [if_neg fz]
    obtain ⟨fp, fl⟩ := fit_le I.fit
    by_cases cm : (t1.mask == t.mask && t.dummies.isEmpty) = true
    · rw [if_pos cm]
      rw [Bool.and_eq_true, beq_iff_eq] at cm
      have dz : t.dummies = #[] := by simpa using cm.2
      dsimp only
      refine wpAny_storeSet_of (s := { s with heap := h1 }) ho1 hd1 ?_ (fits_of_scanBound I.lt)
      refine wpAny_pure (h _ es _ _ ?_ ⟨⟨_, store_at ho1 hd1, hx1, rfl⟩, I.good, I.nd, I.lt, ?_⟩ (.refl _) dz ?_)
      · exact keep (sb1.trans (Heap.SameBut.update h1 _ _))
      · exact I.fit
      · show es.size ≤ t.mask
        rw [← cm.1]
        exact l1
    · rw [if_neg cm]
      dsimp only
      obtain ⟨t2, order, el, pm, f2, m2, d2⟩ := laid_ok (m := t1.mask) (finger := t1.finger) (moves := t1.moves) (led := t1.led && t.led) (plain := t1.plain && t.plain) (hs := es.map (·.1)) m1 (fun x hx => by
        rw [Array.toList_map, List.mem_map] at hx
        obtain ⟨e, he, rfl⟩ := hx
        obtain ⟨k, tk, e1, e2⟩ := I.good e he
        have hb := hk k (List.mem_map.mpr ⟨e, he, by unfold keyOf; rw [e1]⟩)
        rw [e2]
        exact hash_small hb.1 hb.2) (by rw [Array.size_map]; exact l1)
      rw [el]
      rw [Array.size_map] at pm f2
      have pe := order_perm pm
      have sz : (order.filterMap (es[·]?)).size = es.size := by
        have := pe.length_eq
        rwa [Array.length_toList, Array.length_toList] at this
      refine wpAny_bind (wpAny_of_eq (a := (order.filterMap (es[·]?), t2)) ?_ ?_)
      · show (if ((order.filterMap (es[·]?)).size != es.size) = true then _ else _) = _
        rw [if_neg (by rw [sz]; simp)]
      · dsimp only
        refine wpAny_storeSet_of (s := { s with heap := h1 }) ho1 hd1 ?_ (fits_of_scanBound (by rw [sz]; exact I.lt))
        refine wpAny_pure (h _ (order.filterMap (es[·]?)) _ _ ?_ ⟨⟨_, store_at ho1 hd1, hx1, rfl⟩, fun e he => I.good e (pe.mem_iff.mp he), (pe.map keyOf).nodup_iff.mpr I.nd, by rw [sz]; exact I.lt, by rw [sz]; exact f2⟩ pe d2 (by rw [m2]; exact l1))
        exact keep (sb1.trans (Heap.SameBut.update h1 _ _))
end
end SD
end L2

namespace L2
open PySem PySem.Spec PyProof.Rows
namespace SD
theorem erase_list {α : Type} (xs : Array α) (p : Nat) : (SetTable.eraseAt xs p).toList = xs.toList.eraseIdx p := by
  unfold SetTable.eraseAt
  rw [Array.toList_append, Array.toList_extract, Array.toList_extract, List.eraseIdx_eq_take_drop_succ, List.extract_eq_take_drop, List.extract_eq_take_drop, List.drop_zero, Nat.sub_zero]
  congr 1
  refine List.take_of_length_le ?_
  rw [List.length_drop, Array.length_toList]
  omega
theorem insert_size {α : Type} (xs : Array α) (p : Nat) (x : α) : (SetTable.insertAt xs p x).size = xs.size + 1 := by
  rw [← Array.length_toList, SetTable.toList_insertAt, List.length_append, List.length_cons, List.length_take, List.length_drop, Array.length_toList]
  omega
theorem drop_fit {t : SetTable} {n i : Nat} (h : t.fits n = true) (hi : i < n) : (t.drop i).fits (n - 1) = true ∧ (t.drop i).dummies.size = t.dummies.size + 1 ∧ (t.drop i).mask = t.mask := by
  obtain ⟨h1, h2⟩ := fit_le h
  have e : t.place[i]? = some (t.place[i]'(by omega)) := Array.getElem?_eq_getElem (by omega)
  unfold SetTable.drop
  rw [e]
  dsimp only
  have es : (SetTable.eraseAt t.place i).size = n - 1 := by
    rw [← Array.length_toList, erase_list, List.length_eraseIdx, Array.length_toList, if_pos (by omega), h1]
  refine ⟨?_, insert_size _ _ _, rfl⟩
  unfold SetTable.fits SetTable.fill
  dsimp only
  rw [es, insert_size]
  unfold SetTable.fill at h2
  simp
  omega
section
variable {P : Program} {w : World} {A : Around} {E : Value → Shared → Prop} {s : Shared} {a : Addr} {es : Array (Int × Value)} {ep : Nat} {t : SetTable}
theorem find_at (I : Is s.heap a es ep t) {k : Int} {tk : Tok} {Q : Option Nat → Shared → Prop}
    (h1 : ∀ j, es.toList[j]?.map keyOf = some k → Q (some j) s) (h0 : k ∉ es.toList.map keyOf → Q none s) : wpAny (model P w) A (setFind a (.int k tk) (hashInt k)) Q E s := by
  have hkey : (intKind P w).is k (.int k tk) = true := intKind_is P w k tk
  have hel : ElemsOf (intKind P w) es.toList := good_elems I.good
  unfold setFind setFindIn
  refine wpAny_bind (state I ?_)
  dsimp only
  rw [byScan_of (knd := intKind P w) rfl I.lt hel]
  refine wp_if_pos rfl ?_
  refine wpAny_bind (wpAny_rule ?_)
  obtain ⟨o, ho, _, hd⟩ := I.at'
  refine wpAny_bind (wpAny_setScan_of (knd := intKind P w) hkey ho hd I.fit hel ?_)
  cases e : List.findIdx? (fun e => (intKind P w).is k e.2) es.toList with
  | none =>
    dsimp only
    refine wpAny_pure (h0 fun z => ?_)
    obtain ⟨x, hx, q⟩ := (good_mem (P := P) (w := w) I.good k).1 z
    have := List.findIdx?_eq_none_iff.mp e x hx
    rw [q] at this
    cases this
  | some j =>
    dsimp only
    obtain ⟨hj, pj, _⟩ := List.findIdx?_eq_some_iff_getElem.mp e
    rw [Nat.zero_add]
    refine wpAny_pure (h1 j ?_)
    rw [List.getElem?_eq_getElem hj]
    exact congrArg some ((good_is (P := P) (w := w) (I.good _ (List.getElem_mem hj)) k).1 pj)
theorem erase_mapA {α β : Type} (f : α → β) : ∀ (l : List α) (j : Nat), (l.eraseIdx j).map f = (l.map f).eraseIdx j
  | [], _ => rfl
  | _ :: _, 0 => rfl
  | x :: l, j + 1 => congrArg (f x :: ·) (erase_mapA f l j)
/-- a key less -/
theorem discard_at (I : Is s.heap a es ep t) {k : Int} {tk : Tok} {Q : Bool → Shared → Prop}
    (h : ∀ b h' es' ep' t', Heap.SameBut a s.heap h' → Is h' a es' ep' t' → (es'.toList.map keyOf).Perm ((es.toList.map keyOf).erase k) → t'.dummies.size ≤ t.dummies.size + 1 → t'.mask = t.mask → Q b { s with heap := h' }) :
    wpAny (model P w) A (setDiscardHashed a (.int k tk) (hashInt k)) Q E s := by
  unfold setDiscardHashed
  refine wpAny_bind (find_at I (fun j hj => ?_) fun hk => ?_)
  · dsimp only
    refine wpAny_bind (state I ?_)
    dsimp only
    obtain ⟨o, ho, hx, hd⟩ := I.at'
    have hjl : j < es.toList.length := by
      rcases Nat.lt_or_ge j es.toList.length with c | c
      · exact c
      · rw [List.getElem?_eq_none c] at hj
        cases hj
    have hsz : (SetTable.eraseAt es j).size = es.size - 1 := by
      rw [← Array.length_toList, erase_list, List.length_eraseIdx, if_pos hjl, Array.length_toList]
    refine wpAny_bind (wpAny_storeSet_of ho hd ?_ (fits_of_scanBound (by rw [hsz]; have := I.lt; omega)))
    refine wpAny_bind (wpAny_point (wpAny_pure ?_))
    rw [Array.length_toList] at hjl
    obtain ⟨f1, f2, f3⟩ := drop_fit I.fit hjl
    have ek : (SetTable.eraseAt es j).toList.map keyOf = (es.toList.map keyOf).eraseIdx j := by
      rw [erase_list]
      exact erase_mapA keyOf es.toList j
    have ejk : (es.toList.map keyOf)[j]? = some k := by rw [List.getElem?_map]; exact hj
    have pk : ((es.toList.map keyOf).eraseIdx j).Perm ((es.toList.map keyOf).erase k) := by
      have p1 := erase_perm _ j k ejk
      have p2 := List.perm_cons_erase (List.mem_of_getElem? ejk)
      exact (p1.trans p2).cons_inv
    refine h _ _ (SetTable.eraseAt es j) _ _ (Heap.SameBut.update s.heap a _) ⟨⟨_, store_at ho hd, hx, rfl⟩, fun e he => ?_, ?_, ?_, ?_⟩ (by rw [ek]; exact pk) (Nat.le_of_eq f2) f3
    · rw [erase_list] at he
      exact I.good e (List.mem_of_mem_eraseIdx he)
    · rw [ek]
      exact pk.nodup_iff.mpr (I.nd.erase k)
    · rw [hsz]
      have := I.lt
      omega
    · rw [hsz]
      exact f1
  · exact wpAny_pure (h _ s.heap es ep t (Heap.SameBut.refl a s.heap) I (by rw [List.erase_of_not_mem hk]) (Nat.le_succ _) rfl)
theorem unch (I : Is s.heap a es ep t) {id : String} {Q : Unit → Shared → Prop} (h : Q () s) : wpAny (model P w) A (Builtin.Frozenset.unchanged id a ep) Q E s := by
  unfold Builtin.Frozenset.unchanged
  refine wpAny_bind (epoch I ?_)
  refine wp_if_neg (by simp) ?_
  exact wpAny_pure h
theorem foldErase_mem : ∀ (ks : List Int) (l : List Int) (k : Int), l.Nodup → (k ∈ ks.foldl List.erase l ↔ k ∈ l ∧ k ∉ ks)
  | [], l, k, _ => ⟨fun h => ⟨h, List.not_mem_nil⟩, fun h => h.1⟩
  | x :: ks, l, k, nd => by
    rw [List.foldl_cons, foldErase_mem ks (l.erase x) k (nd.erase x), nd.mem_erase_iff, List.mem_cons]
    constructor
    · rintro ⟨⟨h1, h2⟩, h3⟩
      exact ⟨h2, fun z => z.elim h1 h3⟩
    · rintro ⟨h1, h2⟩
      exact ⟨⟨fun z => h2 (.inl z), h1⟩, fun z => h2 (.inr z)⟩
/-- the keys of b taken away from a -/
theorem update_at {b : Addr} {eb : Array (Int × Value)} {epb : Nat} {tb : SetTable} (I : Is s.heap a es ep t) (J : Is s.heap b eb epb tb) (hne : a ≠ b) (hl : w.params.followText "set-order" = true ∨ tb.led = true)
    (h8 : ¬ eb.size / 8 > es.size) (hd : t.dummies.size + eb.size ≤ t.mask / 4) {Q : Unit → Shared → Prop}
    (h : ∀ h' es' ep' t', Heap.SameBut a s.heap h' → Is h' a es' ep' t' → (∀ k, k ∈ es'.toList.map keyOf ↔ k ∈ es.toList.map keyOf ∧ k ∉ eb.toList.map keyOf) → Q () { s with heap := h' }) :
    wpAny (model P w) A (Builtin.Frozenset.differenceUpdate id0 a (.ref b)) Q E s := by
  unfold Builtin.Frozenset.differenceUpdate
  refine wp_if_neg (by simpa using fun z : b = a => hne z.symm) ?_
  try refine wpAny_bind (wpAny_pure ?_)
  refine wpAny_bind (anySet J ?_)
  dsimp only
  refine wp_if_pos rfl ?_
  unfold Builtin.Frozenset.addrOf
  refine wpAny_bind (wpAny_pure ?_)
  refine wpAny_bind (size J ?_)
  refine wpAny_bind (size I ?_)
  refine wp_if_neg h8 ?_
  try refine wpAny_bind (wpAny_pure ?_)
  refine wpAny_bind (epoch J ?_)
  refine wpAny_bind (m := holding [Value.ref b] _) (wpAny_holding ?_)
  refine wpAny_bind (walkN J hl (fun c hc => ?_) fun ew pw => ?_)
  · obtain rfl := List.mem_singleton.mp hc
    exact ⟨_, _, _, I⟩
  refine wpAny_bind (wpAny_forIn_array' _ (fun rest _ s' => ∃ done h' es' ep' t', ew.toList = done ++ rest ∧ s' = { s with heap := h' } ∧ Heap.SameBut a s.heap h' ∧ Is h' a es' ep' t' ∧
      (es'.toList.map keyOf).Perm ((done.map keyOf).foldl List.erase (es.toList.map keyOf)) ∧ t'.dummies.size ≤ t.dummies.size + done.length ∧ t'.mask = t.mask)
    _ (fun x rest u s1 hI => ?_) (fun u s1 hI => ?_) ew PUnit.unit
    ⟨[], s.heap, es, ep, t, rfl, rfl, Heap.SameBut.refl a s.heap, I, .refl _, Nat.le_add_right _ _, rfl⟩)
  · obtain ⟨done, h1, e1, ep1, t1, esplit, rfl, sb, I1, pm, dm, mk⟩ := hI
    have hx : x ∈ eb.toList := pw.mem_iff.mp (by rw [esplit]; exact List.mem_append_right _ List.mem_cons_self)
    obtain ⟨k, tk, e2, e3⟩ := J.good x hx
    obtain ⟨x1, x2⟩ := x
    dsimp only at e2 e3
    subst e2
    subst e3
    dsimp only
    refine wpAny_bind (m := holding [Value.int k tk] _) (wpAny_holding (discard_at (s := { s with heap := h1 }) I1 fun bb h2 e4 ep4 t4 sb2 I2 pm2 dm2 mk2 => ?_))
    have J2 : Is h2 b eb epb tb := (J.same sb hne.symm).same sb2 hne.symm
    refine wpAny_bind (unch (s := { s with heap := h2 }) J2 ?_)
    refine wpAny_pure ⟨done ++ [(hashInt k, Value.int k tk)], h2, e4, ep4, t4, by rw [esplit, List.append_assoc]; rfl, rfl, sb.trans sb2, I2, ?_, ?_, mk2.trans mk⟩
    · rw [List.map_append, List.foldl_append]
      exact pm2.trans (pm.erase k)
    · rw [List.length_append, List.length_singleton]
      omega
  · obtain ⟨done, h1, e1, ep1, t1, esplit, rfl, sb, I1, pm, dm, mk⟩ := hI
    rw [List.append_nil] at esplit
    rw [← esplit] at pm dm
    try refine wpAny_pure ?_
    unfold setTidy
    refine wpAny_bind (state (s := { s with heap := h1 }) I1 ?_)
    dsimp only
    rw [pw.length_eq, Array.length_toList] at dm
    refine wp_if_neg (by unfold SetTable.tooManyDummies; rw [decide_eq_true_eq, mk]; omega) ?_
    refine wpAny_pure (h h1 e1 ep1 t1 sb I1 fun k => ?_)
    rw [pm.mem_iff, foldErase_mem _ _ _ I.nd, (pw.map keyOf).mem_iff]
end
end SD
end L2

namespace L2
open PySem PySem.Spec PyProof.Rows
namespace SD
section
variable {P : Program} {w : World} {A : Around} {E : Value → Shared → Prop} {s : Shared} {a b : Addr} {S T : Int → Bool} {n m : Nat}
theorem dec_t {l : List Int} {k : Int} {T : Int → Bool} (h : T k = true) (j : Int) : (decide (j ∈ l ++ [k]) && !T j) = (decide (j ∈ l) && !T j) := by
  by_cases e : j = k
  · rw [e, h, Bool.not_true, Bool.and_false, Bool.and_false]
  · congr 1
    simp [e]
theorem dec_f {l : List Int} {k : Int} {T : Int → Bool} (h : T k = false) (j : Int) : (decide (j ∈ l ++ [k]) && !T j) = ((decide (j ∈ l) && !T j) || decide (j = k)) := by
  by_cases e : j = k
  · rw [e, h]
    simp
  · simp [e]
/-- a new set of the keys of a that are not b's -/
def Diff (h0 : Heap) (S T : Int → Bool) (r : Addr) (h' : Heap) : Prop :=
  (∀ b o, h0.get? b = some o → h'.get? b = some o) ∧ ∃ es ep t, Is h' r es ep t ∧ ∀ k, k ∈ es.toList.map keyOf ↔ S k = true ∧ T k = false
theorem diff_at {id0 : String} (R : SetR w s.heap a S n) (R2 : SetR w s.heap b T m) (hne : a ≠ b) (hn : n < 32) (hk : ∀ k, S k = true → 0 ≤ k ∧ k < 32) {Q : Value → Shared → Prop}
    (h : ∀ h', Diff s.heap S T s.heap.objs.size h' → Q (.ref s.heap.objs.size) { s with heap := h' }) : wpAny (model P w) A (Builtin.Frozenset.difference id0 a (.ref b)) Q E s := by
  obtain ⟨es, ep, t, I, hS, hsz, hl⟩ := Is.of R
  obtain ⟨eb, epb, tb, J, hT, hszb, hlb⟩ := Is.of R2
  have lta : a < s.heap.objs.size := R.lt
  have ltb : b < s.heap.objs.size := R2.lt
  unfold Builtin.Frozenset.difference
  refine wpAny_bind (anySet J ?_)
  refine wp_if_neg (by simp) ?_
  try refine wpAny_bind (wpAny_pure ?_)
  refine wp_if_neg (by simp) ?_
  refine wp_if_pos rfl ?_
  refine wpAny_bind (size J ?_)
  refine wpAny_bind (size I ?_)
  by_cases c : es.size / 4 > eb.size
  · refine wp_if_pos c ?_
    refine wpAny_bind (wpAny_rule ?_)
    refine wpAny_bind (copy_at I (by omega) (fun k hkk => hk k ((hS k).mpr hkk)) fun h1 e1 ep1 t1 k1 I1 pm1 d1 m1 => ?_)
    refine wpAny_bind (wpAny_pure ?_)
    have J1 : Is h1 b eb epb tb := J.keep (k1 b)
    have z1 : e1.size = es.size := by
      have := pm1.length_eq
      rwa [Array.length_toList, Array.length_toList] at this
    refine wpAny_bind (wpAny_holding (update_at (s := { s with heap := h1 }) I1 J1 (Nat.ne_of_gt ltb) hlb (by rw [z1]; omega) (by rw [d1]; show 0 + _ ≤ _; omega) fun h2 e2 ep2 t2 sb2 I2 mem2 => ?_))
    refine wpAny_pure (h h2 ⟨fun c o e => ?_, e2, ep2, t2, I2, fun k => ?_⟩)
    · rw [sb2.2 c (Nat.ne_of_lt (Heap.lt_size e))]
      exact k1 c o e
    · rw [mem2 k, (pm1.map keyOf).mem_iff, ← hS k, ← hT k, Bool.not_eq_true]
  · refine wp_if_neg c ?_
    refine wpAny_bind (base I ?_)
    refine wpAny_bind ?_
    unfold newSet
    refine wpAny_bind (wpAny_byText ?_)
    try dsimp only
    simp only [newObj]
    refine wpAny_bind (wpAny_alloc (wpAny_pure ?_))
    have R0 := setR_fresh (h := s.heap) w
    have k0 : ∀ b o, s.heap.get? b = some o → (s.heap.push { cls := .type "set", dict := none, data := .set #[] 0 (.fresh 0 0 (!w.params.followText "set-order")) }).get? b = some o := fun b o e => Heap.get?_push_of_some _ e
    revert R0 k0
    show (SetR w (s.heap.push { cls := .type "set", dict := none, data := .set #[] 0 (.fresh 0 0 (!w.params.followText "set-order")) }) s.heap.objs.size (fun _ => false) 0 → _ → wpAny _ _ _ _ _ { s with heap := s.heap.push { cls := .type "set", dict := none, data := .set #[] 0 (.fresh 0 0 (!w.params.followText "set-order")) } })
    generalize s.heap.push { cls := .type "set", dict := none, data := .set #[] 0 (.fresh 0 0 (!w.params.followText "set-order")) } = h0
    intro R0 k0
    refine wpAny_bind (wpAny_pure ?_)
    have I0 : Is h0 a es ep t := I.keep (k0 a)
    have J0 : SetR w h0 b T m := R2.at (k0 b)
    refine wpAny_bind (epoch (s := { s with heap := h0 }) I0 ?_)
    refine wpAny_bind (wpAny_holding ?_)
    refine wpAny_bind ?_
    refine wp_if_pos (by trivial) ?_
    refine walkF (s := { s with heap := h0 }) I0 hl (fun c hc => ?_) R0 fun ew h1 pw sb1 R1 => ?_
    · rcases List.mem_cons.mp hc with rfl | hc
      · obtain ⟨x1, x2, x3, x4, _⟩ := Is.of J0
        exact ⟨x1, x2, x3, x4⟩
      · obtain rfl := List.mem_singleton.mp hc
        obtain ⟨x1, x2, x3, x4, _⟩ := Is.of R0
        exact ⟨x1, x2, x3, x4⟩
    refine wpAny_bind (wpAny_forIn_array' _ (fun rest _ s' => ∃ done h' c, ew.toList = done ++ rest ∧ s' = { s with heap := h' } ∧ Heap.SameBut s.heap.objs.size h0 h' ∧ c ≤ done.length ∧
      SetR w h' s.heap.objs.size (fun k => decide (k ∈ done.map keyOf) && !T k) c) _ (fun x rest u s1 hI => ?_) (fun u s1 hI => ?_) ew PUnit.unit ⟨[], h1, 0, rfl, rfl, sb1, Nat.le_refl _, R1.congr fun k => by simp⟩)
    · obtain ⟨done, h2, c2, esplit, rfl, sb2, lc, R3⟩ := hI
      have hx : x ∈ es.toList := pw.mem_iff.mp (by rw [esplit]; exact List.mem_append_right _ List.mem_cons_self)
      have hlen : done.length < es.size := by
        have := pw.length_eq
        rw [esplit, List.length_append, List.length_cons] at this
        have l2 : es.toList.length = es.size := Array.length_toList
        omega
      obtain ⟨k, tk, e2, e3⟩ := I.good x hx
      obtain ⟨x1, x2⟩ := x
      dsimp only at e2 e3
      subst e2
      subst e3
      dsimp only
      have I2 : Is h2 a es ep t := I0.same sb2 (Nat.ne_of_lt lta)
      have J2 : SetR w h2 b T m := J0.at fun o e => by rw [sb2.2 b (Nat.ne_of_lt ltb)]; exact e
      have sp : (done ++ [(hashInt k, Value.int k tk)]).map keyOf = done.map keyOf ++ [k] := by rw [List.map_append]; rfl
      refine wpAny_bind (wpAny_holding ?_)
      refine wp_if_pos (by trivial) ?_
      refine wpAny_bind (wpAny_setFind_of (s := { s with heap := h2 }) (knd := intKind P w) (intKind_is P w k tk) rfl J2.setOf fun r hr => ?_)
      try refine wpAny_bind (wpAny_pure ?_)
      cases hTk : T k with
      | true =>
        rw [hTk] at hr
        refine wp_if_neg (by rw [hr]; simp) ?_
        refine wpAny_pure ?_
        refine wpAny_bind (unch (s := { s with heap := h2 }) I2 ?_)
        refine wpAny_pure ⟨done ++ [(hashInt k, Value.int k tk)], h2, c2, by rw [esplit, List.append_assoc]; rfl, rfl, sb2, by rw [List.length_append]; omega, R3.congr fun j => ?_⟩
        rw [sp]
        exact dec_t hTk j
      | false =>
        rw [hTk] at hr
        refine wp_if_pos (by rw [hr]; rfl) ?_
        refine wpAny_bind (setR_add_hashed (s := { s with heap := h2 }) (P := P) R3 (by unfold scanBound; omega) fun h3 sb3 R4 => ?_)
        refine wpAny_pure ?_
        refine wpAny_bind (unch (s := { s with heap := h3 }) (I2.same sb3 (Nat.ne_of_lt lta)) ?_)
        refine wpAny_pure ⟨done ++ [(hashInt k, Value.int k tk)], h3, _, by rw [esplit, List.append_assoc]; rfl, rfl, sb2.trans sb3, ?_, R4.congr fun j => ?_⟩
        · rw [List.length_append, List.length_singleton]
          split <;> omega
        · rw [sp]
          exact dec_f hTk j
    · obtain ⟨done, h2, c2, esplit, rfl, sb2, lc, R3⟩ := hI
      rw [List.append_nil] at esplit
      rw [← esplit] at R3
      refine wpAny_pure (wpAny_pure (h h2 ⟨fun c o e => ?_, ?_⟩))
      · rw [sb2.2 c (Nat.ne_of_lt (Heap.lt_size e))]
        exact k0 c o e
      · obtain ⟨e4, ep4, t4, I4, m4, _⟩ := Is.of R3
        refine ⟨e4, ep4, t4, I4, fun k => ?_⟩
        rw [← m4 k, Bool.and_eq_true, decide_eq_true_eq, (pw.map keyOf).mem_iff, ← hS k, Bool.not_eq_true']
/-- a - b -/
theorem entry_sub : entryFor table "set.__sub__" = some Builtin.«frozenset.__sub__» :=
  entryFor_alias (id' := "frozenset.__sub__") (by kernel_rfl) rfl (by decide +kernel) (by kernel_rfl)
theorem sub_at (R : SetR w s.heap a S n) (R2 : SetR w s.heap b T m) (hne : a ≠ b) (hn : n < 32) (hk : ∀ k, S k = true → 0 ≤ k ∧ k < 32) {Q : Value → Shared → Prop}
    (h : ∀ h', Diff s.heap S T s.heap.objs.size h' → Q (.ref s.heap.objs.size) { s with heap := h' }) : wpAny (model P w) A (binaryOp .Sub (.ref a) (.ref b)) Q E s := by
  obtain ⟨es, ep, t, I, _⟩ := Is.of R
  obtain ⟨eb, epb, tb, J, _⟩ := Is.of R2
  refine wpAny_binaryOp_same (T := "set") (op := .Sub) I.type J.type PySem.F.fills_set_sub PySem.F.slot_set_sub ?_
  refine wpAny_call_entry PySem.F.slot_set_sub I.type entry_sub ?_ (PySem.F.args_set_sub_2 _ _)
  show wpAny _ _ (Builtin.Frozenset.slot1 "__sub__" ⟨[.ref a, .ref b], []⟩ >>= _) _ _ s
  unfold Builtin.Frozenset.slot1 slotArgs
  refine wpAny_bind (m := (do
    let (self, [x]) ← (pure (Value.ref a, [Value.ref b]) : Sem (Value × List Value)) | unsupported "internal:set-binding"
    return (self, x))) (wpAny_bind (wpAny_pure (wpAny_pure ?_)))
  refine wpAny_bind ?_
  refine wpAny_bind (anySet I ?_)
  refine anySet J ?_
  refine wp_if_neg (by simp) ?_
  try refine wpAny_bind (wpAny_pure ?_)
  refine wpAny_bind (diff_at R R2 hne hn hk fun h' d => ?_)
  exact wpAny_pure ⟨_, rfl, (fun z => nomatch z), h h' d⟩
end
end SD
end L2

namespace L2
open PySem PySem.Spec PyProof.Rows
namespace SD
/-- a new empty set, as the maker leaves it -/
def e0 (w : World) : Obj := { cls := .type "set", dict := none, data := .set #[] 0 (.fresh 0 0 (!w.params.followText "set-order")) }
section
variable {P : Program} {w : World} {A : Around} {E : Value → Shared → Prop} {s : Shared}
set_option maxHeartbeats 3200000 in
/-- set(xs), xs a list of ints: as a set that can be gone through -/
theorem set_of_list {l : Addr} {items : Array Value} (ns : List Int) {Q : Value → Shared → Prop} (hh : A.handled = none) (hl : s.heap.IsList l items) (hit : IntsAre items.toList ns) (hb : ns.length + 1 < scanBound)
    (h : ∀ (h' : Heap) (tk c : Nat), SetR w h' s.heap.objs.size (fun j => decide (j ∈ ns)) c → c ≤ ns.length → (∀ b o, s.heap.get? b = some o → h'.get? b = some o) → Q (.ref s.heap.objs.size) { s with heap := h', toks := tk }) :
    wpAny (model P w) A (call (.type "set") [.ref l]) Q E s := by
  have sz : items.size = ns.length := (Array.length_toList (xs := items)).symm.trans (IntsAre.length hit)
  have V : ∀ (i : Nat) (v : Value), items[i]? = some v → ∃ k t, ns[i]? = some k ∧ v = .int k t := fun i v hv => by
    have hi : i < ns.length := sz ▸ (Array.getElem?_eq_some_iff.mp hv).1
    obtain ⟨t, e⟩ := IntsAre.int_at hit i v (by rw [Array.getElem?_toList]; exact hv)
    exact ⟨ns[i], t, List.getElem?_eq_getElem hi, by rw [e, List.getD_eq_getElem?_getD, List.getElem?_eq_getElem hi]; rfl⟩
  obtain ⟨_, _, mro⟩ := PySem.F.called_set.mro
  have made := PySem.F.called_set.made; have sub := PySem.F.called_set.sub
  refine wpAny_call (codeAny_of_tree (show wpAny _ _ (callAny (.type "set") _) _ _ _ from ?_))
  refine wpAny_pure ⟨Code.quiet_builtin _ (by decide +kernel), codeAny_builtin PySem.F.entry_type_call ?_⟩
  rw [Around.under_plain (weight_type_call_type "set" [.ref l] []) rfl]
  have nt := PySem.F.called_set.notType; have cc := PySem.F.called_set.canCreate; have tc := PySem.F.typeCall_set_1 (.ref l)
  repeat (any_goals (first | assumption | wp_step))
  have at0 : (s.heap.push (e0 w)).get? s.heap.objs.size = some (e0 w) := Heap.get?_push_size _ rfl
  have keep0 : ∀ b o, s.heap.get? b = some o → (s.heap.push (e0 w)).get? b = some o := fun b o e => Heap.get?_push_of_some _ e
  refine codeAny_mono (code_set_led1 (.ref l) (E := E) (Q₁ := fun ob s₁ => ob = .ref s.heap.objs.size ∧ s₁ = { s with heap := s.heap.push (e0 w) }) ⟨rfl, rfl⟩) fun r s₁ hr => ?_
  match r, hr with
  | .error e, hr => exact hr
  | .ok (.ret ob), hr =>
    obtain ⟨rfl, rfl⟩ := hr
    have ty : Shared.TypeIs { s with heap := s.heap.push (e0 w) } (.ref s.heap.objs.size) "set" := ⟨_, at0, rfl⟩
    have il := PySem.F.called_set.init.lookup; have ib := PySem.F.called_set.init.bind (.ref s.heap.objs.size)
    repeat (any_goals (first | assumption | wp_step))
    refine codeAny_mono (codeAny_call_builtin (R := wants (fun r s₂ => r = .none ∧ ∃ h' tk c, s₂ = { s with heap := h', toks := tk } ∧ SetR w h' s.heap.objs.size (fun j => decide (j ∈ ns)) c ∧ c ≤ ns.length ∧ ∀ b o, s.heap.get? b = some o → h'.get? b = some o) E)
      PySem.F.called_set.init.plain PySem.F.entry_set_init (check_set_init_1 ty ?_)) fun r₂ s₂ hr₂ => ?_
    · obtain ⟨⟨oc, od, oda, osl⟩, hol, hcl, nl, hdl⟩ := hl
      simp only at hcl hdl
      subst hcl; subst hdl
      have ol' := keep0 _ _ hol
      have s1 := PySem.F.sub_list_set; have s2 := PySem.F.sub_list_frozenset
      have nd : (Value.type "list" == Value.type "dict") = false := by decide
      have isl : (s.heap.push (e0 w)).IsList l items := ⟨_, ol', rfl, nl, rfl⟩
      have lS : l < s.heap.objs.size := Heap.lt_size hol
      have zz : (s.heap.push (e0 w)).objs.size = s.heap.objs.size + 1 := Heap.size_push ..
      unfold Builtin.«set.__init__» noKeywords Builtin.Frozenset.updateFrom
      generalize hPI : pyIter = PI
      wp_walk
      subst hPI
      refine wpAny_pyIter_list isl (wpAny_bind (wpAny_runValue ?_))
      have h3 : A.in1.in1.in1.handled = none := by simp [hh]
      have neI : l ≠ (s.heap.push (e0 w)).objs.size := by rw [zz]; exact Nat.ne_of_lt (Nat.lt_succ_of_lt lS)
      refine set_update_ints ((Walks.list h3 _ l neI items).toS) s.heap.objs.size (by rw [zz]; simpa using fun z : s.heap.objs.size = l => Nat.ne_of_gt lS z) ns sz hb V (items.size - 0) 0 _ (by omega) (Nat.zero_le _) ⟨⟨_, Heap.get?_push_size _ rfl, rfl, rfl⟩, isl.push _⟩
        ⟨0, Nat.le_refl 0, setR_new_at (Heap.get?_push_of_some _ at0)⟩ fun s' c' hm lc hS' => ?_
      obtain ⟨h', g2, d', tk', os'⟩ := s'
      obtain rfl : g2 = s.gens := hm.gens
      obtain rfl : d' = s.drawn := hm.drawn
      obtain rfl : os' = s.os := hm.os
      refine (show wpAny _ _ _ _ _ _ from wpAny_pure ?_)
      refine (show wpAny _ _ (ret Value.none) _ _ _ from wpAny_pure ⟨rfl, h', tk', c', rfl, hS', by omega, fun b o e => ?_⟩)
      have hb0 : b < s.heap.objs.size := Heap.lt_size e
      refine hm.heap b o ?_ (Heap.get?_push_of_some _ (keep0 b o e))
      rw [zz]
      simpa using ⟨Nat.ne_of_lt hb0, Nat.ne_of_lt (Nat.lt_succ_of_lt hb0)⟩
    · match r₂, hr₂ with
      | .error e, hr₂ => exact hr₂
      | .ok (.ret r), hr₂ =>
        obtain ⟨rfl, h', tk, c', rfl, hS', hc', hk'⟩ := hr₂
        repeat (any_goals (first | assumption | wp_step))
        exact h _ _ _ hS' hc' hk'
      | .ok .next, hr₂ => exact hr₂.elim
      | .ok .brk, hr₂ => exact hr₂.elim
      | .ok .cont, hr₂ => exact hr₂.elim
  | .ok .next, hr => exact hr.elim
  | .ok .brk, hr => exact hr.elim
  | .ok .cont, hr => exact hr.elim
end
end SD
end L2

namespace L2
open PySem PySem.Spec PyProof.Rows
namespace SD
theorem pigeon {α : Type} [DecidableEq α] : ∀ (l m : List α), l.Nodup → (∀ x ∈ l, x ∈ m) → l.length ≤ m.length
  | [], _, _, _ => Nat.zero_le _
  | x :: l, m, nd, hs => by
    obtain ⟨n1, n2⟩ := List.nodup_cons.mp nd
    have hx := hs x List.mem_cons_self
    have ih := pigeon l (m.erase x) n2 fun y hy => (List.mem_erase_of_ne fun e => n1 (by rw [← e]; exact hy)).mpr (hs y (List.mem_cons_of_mem _ hy))
    have e := List.length_erase_of_mem hx
    have hp := List.length_pos_of_mem hx
    rw [List.length_cons]
    omega
theorem same_len {α : Type} [DecidableEq α] {l m : List α} (nl : l.Nodup) (nm : m.Nodup) (h : ∀ x, x ∈ l ↔ x ∈ m) : l.length = m.length :=
  Nat.le_antisymm (pigeon l m nl fun x hx => (h x).mp hx) (pigeon m l nm fun x hx => (h x).mpr hx)
section
variable {X : Cx}
/-- len(set(xs)): as many as there are different ones -/
def tLenSet (K : PySem.W.Frag) (ta : TE) : TE := fun σ H Q => ta σ H fun x H1 => ∃ (l : Addr) (ns : List Int), x = V.ref l ∧ SqL K H1 l (ns.map V.int) ∧ ns.length < 64 ∧
  ∀ L : List Int, L.Nodup → (∀ k, k ∈ L ↔ k ∈ ns) → Q (.int L.length) H1
/-- len(set(xs) - set(ys)) -/
def tLenSub (K : PySem.W.Frag) (ta tb : TE) : TE := fun σ H Q => ta σ H fun x H1 => ∃ (l : Addr) (ns : List Int), x = V.ref l ∧ SqL K H1 l (ns.map V.int) ∧ ns.length < 32 ∧ (∀ k ∈ ns, 0 ≤ k ∧ k < 32) ∧
  tb σ H1 fun y H2 => ∃ (l2 : Addr) (ms : List Int), y = V.ref l2 ∧ SqL K H2 l2 (ms.map V.int) ∧ ms.length < 64 ∧ ∀ L : List Int, L.Nodup → (∀ k, k ∈ L ↔ k ∈ ns ∧ k ∉ ms) → Q (.int L.length) H2
theorem pe_lenSetD {a : Expr} {ta : TE} {p p2 q pos : Pos} (hc : X.calm = true) (hg : Gl X "len") (hm : X.mg "len" = none) (hg2 : Gl X "set") (hm2 : X.mg "set" = none) (ha : PE X a ta)
    (na : starEach [a] X.env = (false, eval a X.env) :: starEach [] X.env := by rfl) : PE X (.Call (.Name "len" p) [.Call (.Name "set" p2) [a] [] q] [] pos) (tLenSet X.K ta) := by
  refine ⟨fun pins s σ H Q I h => ?_⟩
  refine Call_ (ld_blt I hg hm PySem.boot_len (callWith_builtin1 (args_cons ?_ rfl) rfl rfl))
  refine Call_ (ld_blt I hg2 hm2 PyProof.Rows.boot_set (callWith_type1 (args_cons (thn (ha.run pins s σ H _ I h) fun v s1 ⟨x, H1, I1, r1, q1⟩ => args_nil ?_) na) na rfl))
  obtain ⟨l, ns, rfl, hq, h1, q1⟩ := q1
  cases r1
  obtain ⟨its, r, pl, hz⟩ := I1.list hq
  refine set_of_list ns (I1.ok.hd hc) pl.isList (by simpa using r.ints) (by unfold scanBound; omega) fun h' tk c R hcn hk => args_nil ?_
  obtain ⟨es, ep, t, J, hS, hsz, _⟩ := Is.of R
  obtain ⟨o, ho, hx, hd⟩ := J.at'
  have I2 : Inv X pins σ H1 { s1 with heap := h', toks := tk } := I1.kept hk
  refine call_len_set ho hx hd J.fit (by omega) ⟨.int (es.toList.map keyOf).length, H1, I2.tok _, ⟨_, by rw [List.length_map, Array.length_toList]⟩, q1 _ J.nd fun k => ?_⟩
  rw [← hS k, decide_eq_true_eq]
theorem pe_lenSub {a b : Expr} {ta tb : TE} {p p2 p3 q q3 pb pos : Pos} (hc : X.calm = true) (hg : Gl X "len") (hm : X.mg "len" = none) (hg2 : Gl X "set") (hm2 : X.mg "set" = none) (ha : PE X a ta) (hb : PE X b tb)
    (na : starEach [a] X.env = (false, eval a X.env) :: starEach [] X.env := by rfl) (nb : starEach [b] X.env = (false, eval b X.env) :: starEach [] X.env := by rfl) :
    PE X (.Call (.Name "len" p) [.BinOp (.Call (.Name "set" p2) [a] [] q) .Sub (.Call (.Name "set" p3) [b] [] q3) pb] [] pos) (tLenSub X.K ta tb) := by
  refine ⟨fun pins s σ H Q I h => ?_⟩
  refine Call_ (ld_blt I hg hm PySem.boot_len (callWith_builtin1 (args_cons (wpAny_BinOp ?_) rfl) rfl rfl))
  refine Call_ (ld_blt I hg2 hm2 PyProof.Rows.boot_set (callWith_type1 (args_cons (thn (ha.run pins s σ H _ I h) fun v s1 ⟨x, H1, I1, r1, q1⟩ => args_nil ?_) na) na rfl))
  obtain ⟨l, ns, rfl, hq, h1, hr, q1⟩ := q1
  cases r1
  obtain ⟨its, r, pl, hz⟩ := I1.list hq
  refine set_of_list ns (I1.ok.hd hc) pl.isList (by simpa using r.ints) (by unfold scanBound; omega) fun h' tk c R hcn hk => ?_
  have I2 : Inv X pins σ H1 { s1 with heap := h', toks := tk } := I1.kept hk
  obtain ⟨oa, hoa⟩ : ∃ o, h'.get? s1.heap.objs.size = some o := by
    obtain ⟨o, _, _, _, ho, _⟩ := id R
    exact ⟨o, ho⟩
  have nocell : ∀ v, oa.data ≠ .cell v := fun v z => by
    obtain ⟨o, es, ep, t, ho, _, hd, _⟩ := id R
    rw [hoa] at ho
    obtain rfl := Option.some.inj ho
    rw [hd] at z
    cases z
  have I3 : Inv X ((s1.heap.objs.size, oa) :: pins) σ H1 { s1 with heap := h', toks := tk } := I2.pins_of fun p hp => by
    rcases List.mem_cons.mp hp with rfl | hp
    · exact ⟨hoa, I1.hok.fresh (Nat.le_refl _), Nat.ne_of_gt I1.lt, I1.nofs (Nat.le_refl _), nocell⟩
    · exact I2.pin p (List.mem_append_right _ hp)
  refine Call_ (ld_blt I3 hg2 hm2 PyProof.Rows.boot_set (callWith_type1 (args_cons (thn (hb.run _ _ σ H1 _ I3 q1) fun u s2 ⟨y, H2, I4, r2, q2⟩ => args_nil ?_) nb) nb rfl))
  obtain ⟨l2, ms, rfl, hq2, h2, q2⟩ := q2
  cases r2
  obtain ⟨its2, r2, pl2, hz2⟩ := I4.list hq2
  refine set_of_list ms (I4.ok.hd hc) pl2.isList (by simpa using r2.ints) (by unfold scanBound; omega) fun h2' tk2 c2 R2 hcn2 hk2 => ?_
  have pa := (I4.pin (s1.heap.objs.size, oa) (List.mem_append_right _ List.mem_cons_self)).1
  have Ra : SetR X.w h2' s1.heap.objs.size (fun j => decide (j ∈ ns)) c := R.at fun o e => by
    rw [hoa] at e
    obtain rfl := Option.some.inj e
    exact hk2 _ _ pa
  have lta : s1.heap.objs.size < s2.heap.objs.size := Heap.lt_size pa
  refine sub_at (s := { s2 with heap := h2', toks := tk2 }) Ra R2 (Nat.ne_of_lt lta) (by omega) (fun k hkk => hr k (of_decide_eq_true hkk)) fun h3 D => args_nil ?_
  obtain ⟨hk3, es, ep, t, J, mem⟩ := D
  obtain ⟨o, ho, hx, hd⟩ := J.at'
  have I5 : Inv X pins σ H2 { s2 with heap := h3, toks := tk2 } := (I4.pins_of fun p hp => I4.pin p (List.mem_append_right _ (List.mem_cons_of_mem _ hp))).kept fun b u e => hk3 b u (hk2 b u e)
  have lt := J.lt
  refine call_len_set (s := { s2 with heap := h3, toks := tk2 }) ho hx hd J.fit (by unfold scanBound at lt; omega) ⟨.int (es.toList.map keyOf).length, H2, I5.tok _, ⟨_, by rw [List.length_map, Array.length_toList]⟩, q2 _ J.nd fun k => ?_⟩
  rw [mem k, decide_eq_true_eq, decide_eq_false_iff_not]
end
end SD
end L2

/-! ### list.count of a plain value -/
namespace L2
open PySem PySem.Spec PyProof.Rows
theorem countU {y : V} {uy : Value} (f : V → Bool) (g : Value → Bool) (h : ∀ z u, flatV z = true → RelV z u → g u = f z) : ∀ {ys : List V} {its : List Value}, Vals ys its → ys.all flatV = true → its.countP g = ys.countP f
  | _, _, .nil, _ => rfl
  | _, _, .cons r t, a => by
    rw [List.all_cons, Bool.and_eq_true] at a
    rw [List.countP_cons, List.countP_cons, countU (y := y) (uy := uy) f g h t a.2, h _ _ a.1 r]
def rCntV (K : PySem.W.Frag) : V → List V → Hp → VK → Prop := fun x xs H Q => ∃ (a : Addr) (ys : List V) (y : V), x = V.ref a ∧ xs = [y] ∧ SqL K H a ys ∧ flatV y = true ∧ ys.all flatV = true ∧ Q (.int (ys.countP fun z => eqV z y : Nat)) H
section
variable {X : Cx}
theorem mt_countV : MtR X "list.count" (rCntV X.K) := by
  intro pins s σ H x xs v us Q I rx rxs h
  obtain ⟨a, ys, y, rfl, rfl, hs, fy, fys, q⟩ := h
  cases rx
  cases rxs with
  | cons ry rt =>
    rename_i uy ut
    cases rt
    obtain ⟨its, rv, ⟨⟨cls, dd, data, sl⟩, n, ho, hc, hdn, hd⟩, hlen⟩ := I.list hs
    simp only at hc hd
    subst hc hd
    refine call_meets PySem.F.slot_list_count ⟨_, ho, rfl⟩ PySem.F.entry_list_count (PySem.F.args_list_count_2 _ _)
      (SeqAt.list_countAt a its.toArray n dd sl uy (eqU y)) ⟨ho, fun u' hu' => mem_eqAt ry fy rv fys u' (by simpa using hu'), ?_⟩
    have ec : its.toArray.toList.countP (eqU y) = ys.countP fun z => eqV z y := countU (y := y) (uy := uy) _ _ (fun z u fz r => eqU_of r fz) rv fys
    refine ⟨.int (ys.countP fun z => eqV z y : Nat), H, I.tok _, ⟨s.toks, ?_⟩, q⟩
    show Value.int ((its.toArray.toList.countP (eqU y) : Nat) : Int) s.toks = _
    rw [ec]
end
end L2

/-! ### sorted(list of data) -/
namespace L2
open PySem PySem.Spec PyProof.Rows
def rSortG (K : PySem.W.Frag) : List V → Hp → VK → Prop := fun vs H Q => ∃ (β : Type) (enc : β → PyData) (R : V → β → Prop) (a : Addr) (xs : List V) (bs : List β), vs = [V.ref a] ∧ SqL K H a xs ∧ (∀ x ∈ xs, ∃ t, x = V.ref t) ∧ Paired R xs bs ∧ Paired (fun x b => Dp K H x (enc b)) xs bs ∧
  PySem.W.AllAlike (bs.map enc) ∧ PySem.W.Sortable (bs.map enc) ∧ (∀ b ∈ bs, (enc b).depth ≤ 60) ∧ ∀ ys p, Paired R ys (bs.mergeSort (PySem.W.dataLe false enc)) → H p = none → Q (.ref p) (upd H p (.lst ys))
theorem each_of {β : Type} {R : V → β → Prop} : ∀ {us : List Value} {bs : List β}, Paired R (us.map backV) bs → PySem.W.EachIs (fun u b => R (backV u) b) us bs
  | [], _, h => by
    cases h
    exact .nil
  | u :: us, _, h => by
    cases h with
    | cons a t => exact .cons a (each_of t)
theorem of_each {β : Type} {R : V → β → Prop} : ∀ {us : List Value} {bs : List β}, PySem.W.EachIs (fun u b => R (backV u) b) us bs → Paired R (us.map backV) bs
  | _, _, .nil => .nil
  | _, _, .cons a t => .cons a (of_each t)
theorem each_and {α β : Type} {R S : α → β → Prop} : ∀ {us : List α} {bs : List β}, PySem.W.EachIs R us bs → PySem.W.EachIs S us bs → PySem.W.EachIs (fun u b => R u b ∧ S u b) us bs
  | _, _, .nil, .nil => .nil
  | _, _, .cons a t, .cons b u => .cons ⟨a, b⟩ (each_and t u)
theorem each_ref {β : Type} : ∀ {us : List Value} {bs : List β}, us.length = bs.length → (∀ u ∈ us, ∃ a, u = Value.ref a) → PySem.W.EachIs (fun u (_ : β) => ∃ a, u = Value.ref a) us bs
  | [], [], _, _ => .nil
  | u :: us, b :: bs, h, k => .cons (k u List.mem_cons_self) (each_ref (Nat.succ.inj h) fun v hv => k v (List.mem_cons_of_mem _ hv))
theorem each_mem {β : Type} {R : Value → β → Prop} {p : Value → Prop} (h : ∀ u b, R u b → p u) : ∀ {us : List Value} {bs : List β}, PySem.W.EachIs R us bs → ∀ u ∈ us, p u
  | _, _, .nil, u, hu => nomatch hu
  | _, _, .cons a t, u, hu => by
    rcases List.mem_cons.mp hu with rfl | hu
    · exact h _ _ a
    · exact each_mem h t u hu
theorem each_mono {β : Type} {R S : Value → β → Prop} (h : ∀ u b, R u b → S u b) : ∀ {us : List Value} {bs : List β}, PySem.W.EachIs R us bs → PySem.W.EachIs S us bs
  | _, _, .nil => .nil
  | _, _, .cons a t => .cons (h _ _ a) (each_mono h t)
theorem each_reads {X : Cx} {pins : List (Addr × Obj)} {σ : St} {H : Hp} {s : Shared} (I : Inv X pins σ H s) {β : Type} {enc : β → PyData} : ∀ {xs : List V} {us : List Value} {bs : List β}, Vals xs us → Paired (fun x b => Dp X.K H x (enc b)) xs bs → PySem.W.EachIs (fun v b => ∃ as, PySem.Reads s.heap v (enc b) as) us bs
  | _, _, _, .nil, .nil => .nil
  | _, _, _, .cons r t, .cons a u => .cons (Dp.reads I _ _ _ a r) (each_reads I t u)
section
variable {X : Cx}
theorem cr_sortedG (hu : X.A.units + 64 < cLine) : CallR X (.builtin "sorted") (rSortG X.K) := by
  intro pins s σ H vs us Q I r h
  obtain ⟨β, enc, R, a, xs, bs, rfl, hs, hx, pR, pD, al, so, dp, q⟩ := h
  obtain ⟨its, rv, hl, hz⟩ := I.list hs
  obtain ⟨u, rfl, ru⟩ := vals1 r
  obtain rfl : u = Value.ref a := ru
  obtain ⟨e1, e2⟩ := refs_back rv hx
  have er := each_reads I rv pD
  have lx : its.length = bs.length := by rw [← rv.length, pR.length]
  have eR : PySem.W.EachIs (fun u b => R (backV u) b) its bs := each_of (e1 ▸ pR)
  have eA := each_and eR (each_ref lx e2)
  refine PySem.W.sorted_data (enc := enc) hl.isList eA er al so (by rw [← lx, ← rv.length]; exact hz) (fun b hb => by have := dp b hb; omega) fun out ho eo => ?_
  obtain ⟨c, hc⟩ := PyProof.Rows.sortedAll_at s.heap its out.toArray
  have h3 : ∀ u ∈ out, ∃ a, u = Value.ref a := each_mem (fun _ _ h => h.2) eo
  have pO : Paired R (out.map backV) (bs.mergeSort (PySem.W.dataLe false enc)) := of_each (each_mono (fun _ _ h => h.1) eo)
  refine ⟨.ref (s.heap.objs.size + 1), upd H (s.heap.objs.size + 1) (.lst (out.map backV)), I.laid (t' := s.toks) (fun b o e => PyProof.Rows.sortedAll_old e) (Nat.le_succ _) ⟨?_, out, c, vals_back h3, hc⟩, rfl, q _ _ pO (I.hok.fresh (Nat.le_succ _))⟩
  rw [List.length_map, ho, ← lx, ← rv.length]
  exact hz
end
end L2

namespace L2
open PySem PySem.Spec PyProof.Rows
/-! ### dicts whose keys are diagrams: tuples (n, m, blocks) -/
namespace KD
abbrev DK := Int × Int × List (List Int)
def nums (b : List Int) : NestedKey := .tup (b.map NestedKey.num)
def key (k : DK) : NestedKey := .tup [.num k.1, .num k.2.1, .tup (k.2.2.map nums)]
theorem map_inj {α β : Type} {f : α → β} (hf : ∀ x y, f x = f y → x = y) : ∀ {a b : List α}, a.map f = b.map f → a = b
  | [], [], _ => rfl
  | [], _ :: _, h => by simp at h
  | _ :: _, [], h => by simp at h
  | x :: a, y :: b, h => by
    rw [List.map_cons, List.map_cons] at h
    rw [hf _ _ (List.cons.inj h).1, map_inj hf (List.cons.inj h).2]
theorem nums_inj {a b : List Int} (h : nums a = nums b) : a = b := by
  have h1 := NestedKey.tup.inj h
  exact map_inj (fun x y e => NestedKey.num.inj e) h1
theorem key_inj {a b : DK} (h : key a = key b) : a = b := by
  have h1 := NestedKey.tup.inj h
  have e1 := NestedKey.num.inj (List.cons.inj h1).1
  have h2 := (List.cons.inj h1).2
  have e2 := NestedKey.num.inj (List.cons.inj h2).1
  have h3 := (List.cons.inj h2).2
  have e3 := NestedKey.tup.inj (List.cons.inj h3).1
  have e4 := map_inj (fun x y e => nums_inj e) e3
  obtain ⟨a1, a2, a3⟩ := a
  obtain ⟨b1, b2, b3⟩ := b
  dsimp only at e1 e2 e4
  rw [e1, e2, e4]
/-- at a stands the tuple of a diagram -/
def IsK (H : Hp) (k : DK) (a : Addr) : Prop := ∃ tb ts, H a = some (.tup [.int k.1, .int k.2.1, .ref tb]) ∧ H tb = some (.tup ts) ∧ Paired (fun v b => ∃ t, v = V.ref t ∧ H t = some (.tup (b.map V.int))) ts k.2.2
theorem IsK.same {H H' : Hp} {k : DK} {a : Addr} (s : ∀ b xs, H b = some (.tup xs) → H' b = some (.tup xs)) (x : IsK H k a) : IsK H' k a := by
  obtain ⟨tb, ts, h1, h2, p⟩ := x
  refine ⟨tb, ts, s _ _ h1, s _ _ h2, Paired.mapP p fun _ _ h => ?_⟩
  obtain ⟨t, e, h⟩ := h
  exact ⟨t, e, s _ _ h⟩
theorem all_nums {h : Heap} : ∀ {b : List Int} {us : List Value}, Vals (b.map V.int) us → NestedAll h (b.map NestedKey.num) us
  | [], us, r => by
    cases r
    exact .nil
  | x :: b, us, r => by
    cases r with
    | cons r t =>
      obtain ⟨tk, rfl⟩ := r
      exact .cons (.int _ _) (all_nums t)
theorem tup_is {P : Program} {w : World} {H : Hp} {h : Heap} {b : List Int} {t : Addr} (ok : HOk P w H h) (e : H t = some (.tup (b.map V.int))) : NestedIs h (nums b) (.ref t) := by
  obtain ⟨_, its, r, o, h1, h2, n, h3⟩ := (show ObjOk P w H h t (.tup (b.map V.int)) from ok t _ e)
  exact .tup h1 h2 h3 (by simpa using all_nums r)
theorem tups_is {P : Program} {w : World} {H : Hp} {h : Heap} (ok : HOk P w H h) : ∀ {ts : List V} {bs : List (List Int)} {us : List Value}, Paired (fun v b => ∃ t, v = V.ref t ∧ H t = some (.tup (b.map V.int))) ts bs → Vals ts us → NestedAll h (bs.map nums) us
  | _, _, us, .nil, r => by
    cases r
    exact .nil
  | _, _, us, .cons f p, r => by
    cases r with
    | cons r t =>
      obtain ⟨a, rfl, ha⟩ := f
      cases r
      exact .cons (tup_is ok ha) (tups_is ok p t)
theorem depth_nums : ∀ b : List Int, NestedKey.depthAll (b.map NestedKey.num) = 0
  | [] => by simp [NestedKey.depthAll]
  | x :: b => by simp [NestedKey.depthAll, NestedKey.depth, depth_nums b]
theorem depth_all : ∀ bs : List (List Int), NestedKey.depthAll (bs.map nums) ≤ 1
  | [] => by simp [NestedKey.depthAll]
  | b :: bs => by
    have := depth_all bs
    simp [NestedKey.depthAll, nums, NestedKey.depth, depth_nums b]
    omega
theorem is_key {P : Program} {w : World} {H : Hp} {h : Heap} {k : DK} {a : Addr} (ok : HOk P w H h) (x : IsK H k a) : (nestedKind P w).is h (key k) a := by
  obtain ⟨tb, ts, h1, h2, p⟩ := x
  obtain ⟨_, its, r, o, g1, g2, n, g3⟩ := (show ObjOk P w H h a (.tup _) from ok a _ h1)
  obtain ⟨_, its2, r2, o2, f1, f2, n2, f3⟩ := (show ObjOk P w H h tb (.tup _) from ok tb _ h2)
  refine ⟨?_, ?_⟩
  · cases r with
    | cons r1 r =>
      cases r with
      | cons r3 r =>
        cases r with
        | cons r4 r =>
          cases r
          obtain ⟨t1, rfl⟩ := r1
          obtain ⟨t2, rfl⟩ := r3
          cases r4
          exact .tup g1 g2 g3 (by
            show NestedAll h [.num k.1, .num k.2.1, .tup (k.2.2.map nums)] _
            exact .cons (.int _ _) (.cons (.int _ _) (.cons (.tup f1 f2 f3 (by simpa using tups_is ok p r2)) .nil)))
  · have := depth_all k.2.2
    show NestedKey.depth (key k) ≤ 8
    simp [key, NestedKey.depth, NestedKey.depthAll]
    omega
/-- what a dict holds: key, the address of its tuple, value -/
abbrev Ents := List (DK × Addr × V)
abbrev Rel (kvs : Ents) (xs : List (NestedKey × Addr × Value)) : Prop := Paired (fun (p : DK × Addr × V) (q : NestedKey × Addr × Value) => q.1 = key p.1 ∧ p.2.1 = q.2.1 ∧ RelV p.2.2 q.2.2) kvs xs
/-- the dict at a -/
def NDict (P : Program) (w : World) (a : Addr) (kvs : Ents) : HO := .ext fun h => kvs.length ≤ sizeLine ∧ (a == sysModules) = false ∧ ∃ xs, Rel kvs xs ∧
  ∃ o es ep, h.get? a = some o ∧ o.ExactDict ∧ o.data = .dict es ep ∧ es.toList = xs.map (entryOfKey (nestedKind P w)) ∧ (xs.map (·.1)).Nodup
def KeysOk (H : Hp) (kvs : Ents) : Prop := ∀ p ∈ kvs, IsK H p.1 p.2.1
theorem KeysOk.same {H H' : Hp} {kvs : Ents} (s : ∀ b xs, H b = some (.tup xs) → H' b = some (.tup xs)) (x : KeysOk H kvs) : KeysOk H' kvs := fun p hp => (x p hp).same s
def valD (kvs : Ents) (k : DK) : Option V := (kvs.find? fun p => decide (p.1 = k)).map (·.2.2)
def putD (kvs : Ents) (k : DK) (a : Addr) (v : V) : Ents := if (valD kvs k).isSome = true then kvs.map fun p => if p.1 = k then (p.1, p.2.1, v) else p else kvs ++ [(k, a, v)]
theorem valD_nil (k : DK) : valD [] k = none := rfl
theorem valD_cons (p : DK × Addr × V) (kvs : Ents) (k : DK) : valD (p :: kvs) k = if p.1 = k then some p.2.2 else valD kvs k := by
  unfold valD
  by_cases e : p.1 = k
  · simp [List.find?_cons, e]
  · simp [List.find?_cons, e]
theorem Rel.val {kvs : Ents} {xs : List (NestedKey × Addr × Value)} (r : Rel kvs xs) (k : DK) : RelO (valD kvs k) ((atKey xs (key k)).map (·.2)) := by
  induction r with
  | nil => exact True.intro
  | @cons p q ps qs h t ih =>
    obtain ⟨h1, _, h2⟩ := h
    rw [valD_cons]
    by_cases e : p.1 = k
    · have e' : q.1 = key k := by rw [h1, e]
      have b : atKey (q :: qs) (key k) = some q.2 := by simp [atKey, List.find?_cons, e']
      rw [if_pos e, b]
      exact h2
    · have e' : ¬ q.1 = key k := fun z => e (key_inj (h1.symm.trans z))
      have b : atKey (q :: qs) (key k) = atKey qs (key k) := by simp [atKey, List.find?_cons, e']
      rw [if_neg e, b]
      exact ih
theorem Rel.put {kvs : Ents} {xs : List (NestedKey × Addr × Value)} (r : Rel kvs xs) (k : DK) {b : Addr} {y : V} {u : Value} (ry : RelV y u) : Rel (putD kvs k b y) (storedH xs (key k) b u) := by
  have e : (valD kvs k).isSome = (atKey xs (key k)).isSome := by rw [(Rel.val r k).isSome_eq, Option.isSome_map]
  unfold putD storedH
  rw [e]
  by_cases q : (atKey xs (key k)).isSome = true
  · rw [if_pos q, if_pos q]
    clear e q
    induction r with
    | nil => exact .nil
    | @cons p q ps qs h t ih =>
      rw [List.map_cons, List.map_cons]
      refine .cons ?_ ih
      obtain ⟨h1, h2, h3⟩ := h
      unfold putAt
      by_cases e : p.1 = k
      · rw [if_pos e, if_pos (by rw [h1, e])]
        exact ⟨h1, h2, ry⟩
      · rw [if_neg e, if_neg (fun z => e (key_inj (h1.symm.trans z)))]
        exact ⟨h1, h2, h3⟩
  · rw [if_neg q, if_neg q]
    exact Paired.snoc r ⟨rfl, rfl, ry⟩
theorem Rel.keys {P : Program} {w : World} {H : Hp} {h : Heap} (ok : HOk P w H h) {kvs : Ents} {xs : List (NestedKey × Addr × Value)} (r : Rel kvs xs) (K : KeysOk H kvs) : ∀ x ∈ xs, (nestedKind P w).is h x.1 x.2.1 := by
  induction r with
  | nil => exact fun x hx => nomatch hx
  | @cons p q ps qs hq t ih =>
    intro x hx
    rcases List.mem_cons.mp hx with e | hx
    · subst e
      have := is_key ok (K p List.mem_cons_self)
      rwa [← hq.1, hq.2.1] at this
    · exact ih (fun p hp => K p (List.mem_cons_of_mem _ hp)) x hx
theorem nd_of {P : Program} {w : World} {H : Hp} {h : Heap} {a : Addr} {kvs : Ents} (ok : HOk P w H h) (e : H a = some (NDict P w a kvs)) (K : KeysOk H kvs) :
    kvs.length ≤ sizeLine ∧ (a == sysModules) = false ∧ ∃ xs, Rel kvs xs ∧ h.DictOfH (nestedKind P w) a xs := by
  obtain ⟨⟨z, y, xs, r, o, es, ep, h1, h2, h3, h4, h5⟩, _⟩ := (show ObjOk P w H h a (NDict P w a kvs) from ok a _ e)
  exact ⟨z, y, xs, r, o, es, ep, h1, h2, h3, h4, Rel.keys ok r K, h5⟩
theorem nd_ok {P : Program} {w : World} {H : Hp} {h : Heap} {a : Addr} {kvs : Ents} {xs : List (NestedKey × Addr × Value)} (z : kvs.length ≤ sizeLine) (y : (a == sysModules) = false) (r : Rel kvs xs) (d : h.DictOfH (nestedKind P w) a xs) : ObjOk P w H h a (NDict P w a kvs) := by
  obtain ⟨o, es, ep, h1, h2, h3, h4, _, h5⟩ := d
  refine ⟨⟨z, y, xs, r, o, es, ep, h1, h2, h3, h4, h5⟩, ⟨o, h1⟩, fun g1 g2 f k => ?_⟩
  obtain ⟨z, y, xs, r, o, es, ep, h1, h⟩ := f
  exact ⟨z, y, xs, r, o, es, ep, k _ h1, h⟩
section
variable {X : Cx}
/-- {} -/
def tNNew (P : Program) (w : World) : TE := fun _ H Q => ∀ p, H p = none → Q (.ref p) (upd H p (NDict P w p []))
theorem pe_nnew {pos : Pos} : PE X (.Dict [] [] pos) (tNNew X.prog X.w) := ⟨fun pins s σ H Q I h =>
  wpAny_Dict_empty ⟨.ref s.heap.objs.size, _, I.laid (a := s.heap.objs.size) (o := NDict X.prog X.w s.heap.objs.size []) (t' := s.toks) (fun _ _ q => Heap.get?_push_of_some _ q) (Nat.le_refl _)
    (nd_ok (Nat.zero_le _) (beq_eq_false_iff_ne.mpr (Ne.symm (Nat.ne_of_lt I.big))) .nil (Heap.DictOfH.new s.heap)), rfl, h _ (I.hok.fresh (Nat.le_refl _))⟩⟩
/-- d, k of a look-up -/
def At (P : Program) (w : World) (H : Hp) (x y : V) (kvs : Ents) (k : DK) : Prop := ∃ a b, x = .ref a ∧ y = .ref b ∧ H a = some (NDict P w a kvs) ∧ KeysOk H kvs ∧ IsK H k b
def rNIn (P : Program) (w : World) : R2 := fun y x H Q => ∃ kvs k, At P w H x y kvs k ∧ Q (.bl (valD kvs k).isSome) H
def rNNotIn (P : Program) (w : World) : R2 := fun y x H Q => ∃ kvs k, At P w H x y kvs k ∧ Q (.bl (!(valD kvs k).isSome)) H
theorem room_in1 {A : Around} (hu : A.units + 64 < cLine) {P : Program} {w : World} : (nestedKind P w).room A.in1 := by
  show A.units + 1 + 8 < cLine
  omega
theorem op_nin (hu : X.A.units + 64 < cLine) : OpR X (compareOp .In) (rNIn X.prog X.w) := by
  intro pins s σ H y x u v Q I ry rx h
  obtain ⟨kvs, k, ⟨a, b, rfl, rfl, ha, K, hb⟩, q⟩ := h
  cases rx
  cases ry
  obtain ⟨z, hd, xs, rel, dd⟩ := nd_of I.hok ha K
  refine wpAny_in_heap (room_in1 hu) (is_key I.hok hb) hd dd ?_
  have e := (Rel.val rel k).isSome_eq
  rw [Option.isSome_map] at e
  rw [← e]
  exact ⟨.bl (valD kvs k).isSome, H, I.tok _, rfl, q⟩
theorem op_nnotin (hu : X.A.units + 64 < cLine) : OpR X (compareOp .NotIn) (rNNotIn X.prog X.w) := by
  intro pins s σ H y x u v Q I ry rx h
  obtain ⟨kvs, k, ⟨a, b, rfl, rfl, ha, K, hb⟩, q⟩ := h
  cases rx
  cases ry
  obtain ⟨z, hd, xs, rel, dd⟩ := nd_of I.hok ha K
  refine wpAny_notIn_heap (room_in1 hu) (is_key I.hok hb) hd dd ?_
  have e := (Rel.val rel k).isSome_eq
  rw [Option.isSome_map] at e
  rw [← e]
  exact ⟨.bl (!(valD kvs k).isSome), H, I.tok _, rfl, q⟩
/-- d[k] -/
def tNGet (P : Program) (w : World) (td ty : TE) : TE := fun σ H Q => td σ H fun x H1 => ty σ H1 fun y H2 => ∃ kvs k v, At P w H2 x y kvs k ∧ valD kvs k = some v ∧ Q v H2
theorem pe_nget {o i : Expr} {pos : Pos} {td ty : TE} (hu : X.A.units + 64 < cLine) (ho : PE X o td) (hi : PE X i ty) (hs : NoSl i) : PE X (.Subscript o i pos) (tNGet X.prog X.w td ty) := by
  refine ⟨fun pins s σ H Q I h => ?_⟩
  refine subD_of PySem.F.slot_dict_getitem.lookup hs (thn (ho.run pins s σ H _ I h) fun u s1 ⟨x, H1, I1, rx, q1⟩ => thn (hi.run pins s1 σ H1 _ I1 q1) fun iv s2 ⟨y, H2, I2, ry, kvs, k, v, ⟨a, b, ex, ey, ha, K, hb⟩, hv, q2⟩ => ?_)
  subst ex
  subst ey
  obtain rfl : u = Value.ref a := rx
  obtain rfl : iv = Value.ref b := ry
  obtain ⟨z, hd, xs, rel, dd⟩ := nd_of I2.hok ha K
  obtain ⟨w', hw, rw'⟩ := RelO.some_of (v := v) (o := (atKey xs (key k)).map (·.2)) (by rw [← hv]; exact Rel.val rel k)
  obtain ⟨p, hp, hp2⟩ := Option.map_eq_some_iff.mp hw
  refine ⟨dd.typeIs, wpAny_getItem_heap (room_in1 hu) (is_key I2.hok hb) dd hp ?_⟩
  rw [hp2]
  exact ⟨v, H2, I2.tok _, rw', q2⟩
/-- d[k] = v -/
def rNSet (P : Program) (w : World) : V → V → V → Hp → (Hp → Prop) → Prop := fun x y v H Q => ∃ kvs k a b, x = .ref a ∧ y = .ref b ∧ H a = some (NDict P w a kvs) ∧ KeysOk H kvs ∧ IsK H k b ∧ kvs.length < sizeLine ∧ Q (upd H a (NDict P w a (putD kvs k b v)))
theorem putD_len (kvs : Ents) (k : DK) (b : Addr) (v : V) : (putD kvs k b v).length ≤ kvs.length + 1 := by
  unfold putD
  split
  · rw [List.length_map]; omega
  · rw [List.length_append]; exact Nat.le_refl _
theorem set_nd (hu : X.A.units + 64 < cLine) : PSet X (rNSet X.prog X.w) := by
  intro pins s σ H x y v xv yv u Q I rx ry rv h
  obtain ⟨kvs, k, a, b, rfl, rfl, ha, K, hb, hl, q⟩ := h
  cases rx
  cases ry
  obtain ⟨z, hd, xs, rel, dd⟩ := nd_of I.hok ha K
  have hz : xs.length ≤ sizeLine := by rw [← Paired.length rel]; exact z
  refine wpAny_setItem_heap (room_in1 hu) (is_key I.hok hb) dd (fun h' hm' hs => ?_) hz
  obtain ⟨o, _, _, ho, _⟩ := id hm'
  have := putD_len kvs k b v
  exact ⟨_, d_write I (by rw [ha]; trivial) hs ⟨o, ho⟩ (nd_ok (by omega) hd (Rel.put rel k rv) hm'), q⟩
end
end KD
end L2

/-! ### {(..): v}: a display of one pair, its key a tuple -/
namespace L2
open PySem PySem.Spec PyProof.Rows
open Sem (wp)
def tDispT1 (tk tv : TE) : TE := fun σ H Q => ∀ p, H p = none → tk σ (upd H p (.dT [])) fun x H1 => tv σ H1 fun y H2 => ∃ (k : List Key) (b : Addr), x = .ref b ∧ H2 b = some (.tup (k.map kV)) ∧ H2 p = some (.dT []) ∧ Q (.ref p) (upd H2 p (.dT [(k, y)]))
theorem pe_dispT1 {X : Cx} {pos : Pos} {k v : Expr} {tk tv : TE} (hu : X.A.units + 1 < cLine) (hk : PE X k tk) (hv : PE X v tv) : PE X (.Dict [some k] [v] pos) (tDispT1 tk tv) := by
  refine ⟨fun pins s σ H Q I q => ?_⟩
  have hn := I.hok.fresh (Nat.le_refl s.heap.objs.size)
  have I1 := I.laid (a := s.heap.objs.size) (o := .dT []) (h' := s.heap.push { cls := .type "dict", data := .dict #[] }) (t' := s.toks) (fun _ _ q => Heap.get?_push_of_some _ q) (Nat.le_refl _) (dt_empty s.heap I.big)
  rw [arm_eval_Dict, zip_pairTrees [some k] [v] X.env pos rfl rfl, dictDisplay_pairs (pairTrees [some k] [v] X.env pos) (fun z => nomatch z) (by show 1 < 17; decide)]
  refine wpAny_bind (wpAny_standAt (wpAny_bind (wpAny_subDictH (knd := tupleKind (mixKind X.prog X.w)) (Q := fun d s' => wpAny (model X.prog X.w) X.A (pure (Value.ref d)) _ _ s') (Nat.lt_of_succ_lt hu) (by show 1 ≤ 15; decide) ?_)))
  refine pairTrees_cons_walk (thn (hk.run pins _ σ _ _ I1 (q _ hn)) fun u s1 ⟨x, H1, I2, rx, q1⟩ => thn (hv.run pins s1 σ H1 _ I2 q1) fun w2 s2 ⟨y, H2, I3, ry, k0, b, ex, eb, ep, q2⟩ => pairTrees_nil_walk ?_)
  subst ex
  obtain rfl : u = Value.ref b := rx
  obtain ⟨z, hd, xs, r0, dd⟩ := dt_of I3.hok ep
  cases r0
  refine ⟨[(k0, b, w2)], ⟨rfl, rfl, key_of I3.hok eb, trivial⟩, dd, fun h' tk' dd' hs => wpAny_pure ⟨.ref s.heap.objs.size, _, ?_, rfl, q2⟩⟩
  obtain ⟨q, es, ep', hq, h2, h3, h4, _, h5⟩ := dd'
  refine d_write I3 (by rw [ep]; exact True.intro) hs ⟨q, hq⟩ ⟨by show 1 ≤ sizeLine; decide, hd, [(k0, b, w2)], .cons ⟨rfl, ?_, ry⟩ .nil, q, es, ep', hq, h2, h3, h4, h5⟩
  show upd H2 s.heap.objs.size _ b = _
  rw [upd_ne (ne_of eb ep (fun z => nomatch z))]
  exact eb
end L2

/-! ### for (k, v) in d.items(), d a dict with tuple keys -/
namespace L2
open PySem PySem.Spec PyProof.Rows
/-- the pairs, each a new tuple; the key's own tuple stands in it -/
def ItiT (d : Addr) (o : Obj) (kvs : List (List Key × V)) : It :=
  ⟨fun i H => H d = some (.frz o (.dT kvs)) ∧ i < kvs.length, fun i H x H' => ∃ T k v q, kvs[i]? = some (k, v) ∧ x = .ref T ∧ H q = some (.tup (k.map kV)) ∧ H T = none ∧ H' = upd H T (.tup [.ref q, v]), fun i H => H d = some (.frz o (.dT kvs)) ∧ kvs.length ≤ i⟩
section
variable {X : Cx} {pins : List (Addr × Obj)} {σ : St} {H : Hp} {s : Shared} {d : Addr} {o : Obj}
theorem Inv.frzTV {kvs : List (List Key × V)} (I : Inv X pins σ H s) (h : H d = some (.frz o (.dT kvs))) :
    (d == sysModules) = false ∧ s.heap.get? d = some o ∧ o.ExactDict ∧ ∃ (es : Array DictEntry) (ep : Nat), o.data = .dict es ep ∧ es.size = kvs.length ∧
      ∀ (i : Nat) (k : List Key) (v : V), kvs[i]? = some (k, v) → ∃ (en : DictEntry) (q : Addr), es[i]? = some en ∧ en.key = .ref q ∧ H q = some (.tup (k.map kV)) ∧ RelV v en.val := by
  obtain ⟨hd, z, hs, xs, pr, o', es, ep, ho, hx, hdt, he, _⟩ := I.hok d _ h
  rw [hd] at ho
  cases ho
  refine ⟨hs, hd, hx, es, ep, hdt, ?_, fun i k v e => ?_⟩
  · have l1 : es.size = xs.length := size_of_entries he
    have l2 : kvs.length = xs.length := Paired.length pr
    omega
  · obtain ⟨b, hb, e1, e2, e3⟩ := paired_get pr e
    have q := entry_at he i
    rw [hb] at q
    exact ⟨_, b.2.1, q, rfl, e2, e3⟩
end
section
variable {P : Program} {w : World} {K : PySem.W.Frag} {tg : Expr} {d : Addr} {o : Obj} {es : Array DictEntry} {ep : Nat}
theorem turn_itemsT {kvs : List (List Key × V)} {elts : List Expr} {kk : Nat} {tpos : Pos} (it : Addr) (hod : o.data = .dict es ep) :
    Turn P w K (.Tuple elts kk tpos) (ItiT d o kvs) [it] it (fun i h => ∃ ok ov, IsItemIter h it d i kvs.length ep ok ov) where
  mem := by simp
  obj := fun i h st b hb => by
    have e : b = it := by simpa using hb
    subst e
    obtain ⟨ok, ov, e⟩ := st
    exact ⟨_, e, fun v z => nomatch z⟩
  keep := fun i h h' st k => let ⟨ok, ov, e⟩ := st; ⟨ok, ov, k it (by simp) _ e⟩
  item := by
    intro X hP hw hK hc i pins s σ H E I hf st hg
    subst hP hw hK
    obtain ⟨hd, hi⟩ := hg
    obtain ⟨hs, hgd, hx, es', ep', hdt, hsz, ent⟩ := I.frzTV hd
    obtain ⟨rfl, rfl⟩ := dict_ep hod hdt
    obtain ⟨⟨k, v⟩, hkv⟩ : ∃ p, kvs[i]? = some p := ⟨kvs[i], List.getElem?_eq_getElem hi⟩
    obtain ⟨en, q, hen, hkey, hq, ru⟩ := ent i k v hkv
    obtain ⟨ok, ov, he⟩ := st
    have hlt : it < s.heap.objs.size := Heap.lt_size he
    have hi' : i < es'.size := by omega
    have een : es'[i] = en := by
      rw [Array.getElem?_eq_getElem hi'] at hen
      exact Option.some.inj hen
    rw [← hsz] at he
    refine DT.nextI he ⟨o, hgd, hx, hdt⟩ hi' fun h' ho hT hz hk => ?_
    rw [een, hkey] at hT ho
    refine ⟨_, rfl, wpAny_letOwnedTupleGo_items (s := { s with heap := h' }) ho fun h'' he' sb => ?_⟩
    have hT2 : h''.get? s.heap.objs.size = some { cls := .type "tuple", data := .seq #[.ref q, en.val] } := (sb.2 _ (Nat.ne_of_gt hlt)).trans hT
    have new : ObjOk X.prog X.w (upd H s.heap.objs.size (.tup [.ref q, v])) h'' s.heap.objs.size (.tup [.ref q, v]) :=
      ⟨by show 2 ≤ sizeLine; decide, [.ref q, en.val], .cons rfl (.cons ru .nil), ⟨_, hT2, rfl, _, rfl⟩⟩
    have I1 : Inv X pins σ (upd H s.heap.objs.size (.tup [.ref q, v])) { s with heap := h'' } :=
      I.turnedNew (t' := s.toks) (ch := [it]) (fun b ob hb e => (sb.2 b (by simpa using hb)).trans (hk b ob (by simpa using hb) e)) hf (Nat.le_refl _) new
    refine ⟨.ref s.heap.objs.size, _, I1, rfl, ⟨_, k, v, q, hkv, rfl, hq, I.hok.fresh (Nat.le_refl _), rfl⟩, ⟨.ref q, en.val, ?_⟩, fun b hb => ?_⟩
    · rw [← hsz]; exact he'
    · have e : b = it := by simpa using hb
      rw [e, upd_ne (Nat.ne_of_lt hlt)]
      exact (hf it (by simp)).1
  done := by
    intro X hP hw hK hc i pins s σ H E I hf st hg
    subst hP hw hK
    obtain ⟨hd, hi⟩ := hg
    obtain ⟨f0, f1, f2, f3, f4, f5⟩ := hf it (by simp)
    obtain ⟨hs, hgd, hx, es', ep', hdt, hsz, ent⟩ := I.frzTV hd
    obtain ⟨rfl, rfl⟩ := dict_ep hod hdt
    obtain ⟨ok, ov, he⟩ := st
    rw [← hsz] at he hi
    exact DT.endI (I.ok.hd hc) he ⟨o, hgd, hx, hdt⟩ hi fun h' eb => ⟨rfl, I.turned (t' := s.toks) (fun b ob hb e => eb b ob hb e) f0 f1 f3 f4 f5⟩
  self := fun A i s Q E st h => let ⟨_, _, e⟩ := st; PySem.W.kcp_self e h
end
/-- the dict is locked -/
def iItemsT (td : TE) : TI := fun σ H R => td σ H fun x H1 => ∃ d o kvs, x = .ref d ∧ H1 d = some (.frz o (.dT kvs)) ∧ R (ItiT d o kvs) H1
section
variable {X : Cx} {tg e : Expr} {td : TE} {apos cpos : Pos}
theorem pi_itemsT {elts : List Expr} {kk : Nat} {tpos : Pos} (he : PE X e td) (hbase : attributeBase e "items" X.env (eval e X.env) = eval e X.env := by rfl) (hline : (apos.endLine == cpos.line) = true := by rfl) :
    PI X (.Tuple elts kk tpos) (.Call (.Attribute e "items" apos) [] [] cpos) (iItemsT td) := by
  refine ⟨fun pins s σ H R I h => ?_⟩
  refine wpAny_Call_method (T := "dict") (id := "dict.items") hbase rfl hline F.plainAttrs_dict F.slot_dict_items F.type_dict_items (thn (he.run pins s σ H _ I h) fun u s1 ⟨x, H1, I1, rx, d, o, kvs, ex, hd, q⟩ => ?_)
  subst ex
  obtain rfl : u = Value.ref d := rx
  obtain ⟨hs, hgd, hx, es, ep, hdt, hsz, ent⟩ := I1.frzTV hd
  have I2 : Inv X pins σ H1 { s1 with heap := s1.heap.push { cls := .type "dict_items", data := .fields #[.ref d] } } := I1.kept (t' := s1.toks) fun b ob q => Heap.get?_push_of_some _ q
  have raw : DT.Raw s1.heap d es ep := ⟨o, hgd, hx, hdt⟩
  refine ⟨raw.typeIs, fun a e => ?_, ?_⟩
  · cases e
    exact ⟨o, hgd, hx.2.1⟩
  have fin : wpAny (model X.prog X.w) X.A (pyIter (.ref s1.heap.objs.size)) (PIE X pins σ (.Tuple elts kk tpos) R) X.xe { s1 with heap := s1.heap.push { cls := .type "dict_items", data := .fields #[.ref d] } } := by
    refine DT.iterI (d := d) (es := es) (ep := ep) ⟨_, Heap.get?_push_size _ rfl, rfl, rfl⟩ (raw.push _) (pi_one (tk := s1.toks) I2 _ (turn_itemsT _ hdt) ⟨.none, .none, ?_⟩ q)
    rw [← hsz]
    exact Heap.get?_push_size _ rfl
  show wpAny _ _ (callWith cpos (.builtin "dict.items") [.ref d] [] []) _ X.xe s1
  exact method_meetsIn F.slot_dict_items F.entry_dict_items rfl (PySem.evalArgs_none ⟨rfl, raw.typeIs, F.args_dict_items_1 _, _, DT.meetsItems hs, raw, fin⟩)
end
/-- a loop over the items of a dict with tuple keys -/
theorem walk_itemsT {d : Addr} {o : Obj} {kvs : List (List Key × V)} : Walk (ItiT d o kvs) kvs.length (fun H => H d = some (.frz o (.dT kvs))) (fun i H x H' => ∃ T k v q, kvs[i]? = some (k, v) ∧ x = .ref T ∧ H q = some (.tup (k.map kV)) ∧ H T = none ∧ H' = upd H T (.tup [.ref q, v])) := by
  refine ⟨fun i H hi h => ⟨h, hi⟩, fun H h => ⟨h, Nat.le_refl _⟩, fun i H x H' hi h y => y⟩
end L2

namespace T
open PySem PySem.Spec PyProof.Rows L2
def SameBut (a : Addr) (H H' : Hp) : Prop := ∀ b o, b ≠ a → H b = some o → H' b = some o
theorem SameBut.refl (a : Addr) (H : Hp) : SameBut a H H := fun _ _ _ h => h
theorem SameBut.trans {a : Addr} {H H1 H2 : Hp} (x : SameBut a H H1) (y : SameBut a H1 H2) : SameBut a H H2 := fun b o n h => y b o n (x b o n h)
theorem SameBut.upd {a : Addr} {H : Hp} {o : HO} : SameBut a H (upd H a o) := fun b u n h => by rw [upd_ne n]; exact h
theorem SameBut.new {a p : Addr} {H : Hp} {o : HO} (h : H p = none) : SameBut a H (L2.upd H p o) := fun b u n e => by rw [upd_ne (ne_of_none e h)]; exact e
theorem Same.but {a : Addr} {H H' : Hp} (h : Same H H') : SameBut a H H' := fun b o _ e => h b o e
theorem same_upd {H : Hp} {p : Addr} {o : HO} (h : H p = none) : Same H (upd H p o) := fun b x e => by
  rw [upd_ne (ne_of_none e h)]
  exact e
theorem upd_self {H : Hp} {a : Addr} {o : HO} (h : H a = some o) : upd H a o = H := by
  funext b
  unfold upd
  by_cases e : b = a
  · rw [if_pos e, e, h]
  · rw [if_neg e]
theorem Same.mut {H H' : Hp} {p : Addr} {o : HO} (e : Same H H') (h : H p = none) : Same H (upd H' p o) := fun a u ha => by
  rw [upd_ne (ne_of_none ha h)]
  exact e a u ha
theorem map_int_get {ns : List Int} {i : Nat} {y : V} (hi : (ns.map V.int)[i]? = some y) : ∃ z, ns[i]? = some z ∧ y = V.int z := by
  rw [List.getElem?_map] at hi
  cases e : ns[i]? with
  | none =>
    rw [e] at hi
    cases hi
  | some z =>
    rw [e] at hi
    exact ⟨z, rfl, (Option.some.inj hi).symm⟩
theorem small_of {n : Nat} (h : n ≤ 100000) : n < sizeLine := Nat.lt_of_le_of_lt h (by decide)
structure ErrC (K : PySem.W.Frag) (mg : Str → Option Value) (x : Str) (C : Addr) : Prop where
  gc : mg x = some (.ref C)
  xC : PySem.W.excIn K C [.type "ValueError", .type "Exception", .type "BaseException", .type "object"] "ValueError.__new__" = true
  kc : PySem.W.keepIn K (.ref C) = true
  bc : PySem.W.subIn K (.ref C) (.type "BaseException") = some true
  tc : PySem.W.typeIn K (.ref C) = some (.type "type")
/-- a def whose defaults stand somewhere (called with all its arguments) -/
structure FunA (K : PySem.W.Frag) (x qual : Str) (st : Stmt) (f : Addr) (fd : FuncData) : Prop where
  ex : ∃ (oc : Value) (od : Option Addr) (dV kV doc pm : Value) (an : Option Addr) (cdv ct : Value) (osl : Array (Option Value)),
    fd = PySem.W.fnOf x qual (defArgs st) (defBody st) (defScope st) dV kV doc pm an cdv ct ∧ K.lookup f = some ⟨oc, od, .func fd, osl⟩ ∧ PySem.W.codeIn K cdv qual = true
  kp : PySem.W.keepIn K (.ref f) = true
section
variable {P : Program} {w : World} {K : PySem.W.Frag} {mg : Str → Option Value} {base : Heap}
theorem FunA.okX {x qual : Str} {st : Stmt} {f : Addr} {fd : FuncData} {N ps : List Str} {k : Nat} {sp : Sp} (F : FunA K x qual st f fd) (S : FnScope N ps (defScope st)) (len : ∀ vs H Q E, sp vs H Q E → vs.length = ps.length)
    (hbody : ∀ (cdv : Value) (A : Around) (outer : List Env) (s : Shared) (H : Hp) (vs : List V) (Q : VK) (E : XK), Room k (A.deeper (envOfC qual (defScope st) s.heap.objs.size f cdv)) → sp vs H Q E →
      ∃ t, PSs (cxOf (L2.CX P w) P w K mg base N qual (defScope st) f cdv A outer s H E) (defBody st) t ∧ t { nx := fun _ H' => Q .non H', rt := Q } (start N vs) H) : FnOk P w K mg base (L2.CX P w) (k + 1) f fd ps sp := by
  obtain ⟨oc, od, dV, kV, doc, pm, an, cdv, ct, osl, rfl, lk, hcd⟩ := F.ex
  exact fn_of lk hcd S len fun A outer s H vs Q E hr hsp => hbody cdv A outer s H vs Q E hr hsp
end
theorem if_pos_of {b : Bool} {A B : Prop} (h : b = true) (x : A) : if b = true then A else B := by
  rw [if_pos h]
  exact x
theorem if_neg_of {b : Bool} {A B : Prop} (h : ¬ b = true) (x : B) : if b = true then A else B := by
  rw [if_neg h]
  exact x
theorem sqT_same {K : PySem.W.Frag} {H H' : Hp} {a : Addr} {xs : List V} (e : Same H H') (h : SqT K H a xs) : SqT K H' a xs := by
  rcases h with (h | ⟨o, h⟩) | h
  · exact .inl (.inl (e _ _ h))
  · exact .inl (.inr ⟨o, e _ _ h⟩)
  · exact .inr h
section
variable {P : Program} {w : World} {K : PySem.W.Frag} {mg : Str → Option Value} {base : Heap}
theorem room64 {k : Nat} {A : Around} (hr : Room k A) : A.units + 64 < cLine := by have := hr.un; omega
theorem room65 {k : Nat} {A : Around} (hr : Room k A) : A.units + 65 < cLine := by have := hr.un; omega
theorem inV_primes {p : Int} : inV (.int p) [.int 2, .int 3, .int 5, .int 7, .int 11, .int 13, .int 17, .int 19, .int 23, .int 29, .int 31] = inV (.int p) (primes.map V.int) := rfl
end
theorem sqT_but {K : PySem.W.Frag} {H H' : Hp} {r a : Addr} {xs : List V} (e : SameBut r H H') (n : a ≠ r) (h : SqT K H a xs) : SqT K H' a xs := by
  rcases h with (h | ⟨o, h⟩) | h
  · exact .inl (.inl (e _ _ n h))
  · exact .inl (.inr ⟨o, e _ _ n h⟩)
  · exact .inr h
theorem at_tab {xs : List Int} {i : Int} (h0 : 0 ≤ i) (h1 : i < xs.length) : atI (xs.map V.int) i = some (.int (xs.getD i.toNat 0)) := by
  obtain ⟨n, rfl⟩ := Int.eq_ofNat_of_zero_le h0
  have hn : n < xs.length := by omega
  refine atI_nat ?_
  rw [List.getElem?_map, List.getElem?_eq_getElem hn, List.getD_eq_getElem?_getD, show ((n : Nat) : Int).toNat = n from rfl, List.getElem?_eq_getElem hn]
  rfl
theorem mod_lt8 (n : Int) {m : Int} (h : 0 < m) : 0 ≤ n % m ∧ n % m < m := ⟨Int.emod_nonneg _ (by omega), Int.emod_lt_of_pos _ h⟩
def wtab : List Int := [0, 0, 0, 2, 3, 5, 7, 31]
theorem wtab_in : ∀ k : Nat, k < 8 → wtab.getD k 0 = 0 ∨ (wtab.getD k 0 ≠ 0 ∧ inV (.int (wtab.getD k 0)) (primes.map V.int) = true ∧ 2 ≤ wtab.getD k 0) := by decide
/-! ### isinstance of the error that an except suite holds -/
def rIsE' (K : PySem.W.Frag) (cls : Value) (d : Option Addr) (a : Addr) : List V → Hp → VK → Prop := fun xs H Q => ∃ D : Addr, cls = .ref D ∧ d = none ∧ ExcC K D ∧ rIsE K D a xs H Q
theorem call_isE' {X : Cx} {a : Addr} {oe : Obj} {pn : List (Addr × Obj)} {cls : Value} {d : Option Addr} (hz : Zc cls d oe) (hf : ∃ vs, oe.data = .fields vs) : CallR (X.suite a ((a, oe) :: pn)) (.builtin "isinstance") (rIsE' X.K cls d a) := by
  intro pins s σ H xs us Q I r h
  obtain ⟨D, rfl, rfl, C, h⟩ := h
  exact call_isE C hz hf pins s σ H xs us Q I r h
theorem pe_indexK {X : Cx} {K : PySem.W.Frag} {o e : Expr} {to : TE} {t : TA} {apos cpos : Pos} (hK : X.K = K) (ho : PE X o to) (ha : PA X [e] t)
    (hb : attributeBase o "index" X.env (eval o X.env) = eval o X.env := by rfl)
    (hf : ((backTo cpos (starEach [e] X.env)).all (fun x => !x.1) && (backToKw cpos (keywordEach [] X.env)).all (fun x => x.1.isSome) && decide ([e].length + ([] : List Keyword).length + (if ([] : List Keyword).isEmpty then 0 else 1) < 30)) = true := by rfl)
    (hl : (apos.endLine == cpos.line) = true := by rfl) (hs : starEach [e] X.env = (false, eval e X.env) :: starEach [] X.env := by rfl) (hp : (backTo cpos (starEach [] X.env)).any (·.1) = false := by rfl) :
    PE X (.Call (.Attribute o "index" apos) [e] [] cpos) (tBM K "list" (rIndex K) to t) := by
  subst hK
  exact pe_bm PySem.F.plainAttrs_list PySem.F.slot_list_index PySem.F.type_list_index mt_index ho ha hb hf hl hs hp
/-! ### values without depth -/
inductive Val1 (H : Hp) : V → PyData → Prop
  | non : Val1 H .non .none
  | bl (b : Bool) : Val1 H (.bl b) (.bool b)
  | str (x : Str) : Val1 H (.str x) (.str x)
  | pair {t : Addr} {u v : Int} : H t = some (.tup [.int u, .int v]) → Val1 H (.ref t) (.tuple [.int u, .int v])
theorem Val1.dp {K : PySem.W.Frag} {H : Hp} {x : V} {d : PyData} (h : Val1 H x d) : Dp K H x d := by
  cases h with
  | non => exact .non
  | bl b => exact .bl b
  | str x => exact .str x
  | pair h => exact .tup (.inl (.inl h)) (.cons (.int _) (.cons (.int _) .nil))
theorem Val1.but {H H' : Hp} {D : Addr} {ys : List V} {x : V} {d : PyData} (s : SameBut D H H') (hD : H D = some (.lst ys)) (h : Val1 H x d) : Val1 H' x d := by
  cases h with
  | non => exact .non
  | bl b => exact .bl b
  | str x => exact .str x
  | pair h => exact .pair (s _ _ (ne_of h hD (fun z => nomatch z)) h)
theorem Val1.same {H H' : Hp} {x : V} {d : PyData} (s : Same H H') (h : Val1 H x d) : Val1 H' x d := by
  cases h with
  | non => exact .non
  | bl b => exact .bl b
  | str x => exact .str x
  | pair h => exact .pair (s _ _ h)
theorem vals1_dp {K : PySem.W.Frag} {H : Hp} : ∀ {xs : List V} {ds : List PyData}, Paired (Val1 H) xs ds → DpAll K H xs ds
  | _, _, .nil => .nil
  | _, _, .cons a b => .cons a.dp (vals1_dp b)
theorem paired_snoc {α β : Type} {F : α → β → Prop} {a : α} {b : β} (h : F a b) : ∀ {l : List α} {m : List β}, Paired F l m → Paired F (l ++ [a]) (m ++ [b])
  | _, _, .nil => .cons h .nil
  | _, _, .cons x y => .cons x (paired_snoc h y)

/-- the first def of a class -/
def inCls : Stmt → Stmt
  | .ClassDef _ _ _ body _ _ _ _ _ _ _ => body.getD 0 (.Pass ⟨0, 0, 0, 0⟩)
  | s => s
theorem pt_truthK {X : Cx} {K : PySem.W.Frag} {a : Expr} {ta : TE} (hK : X.K = K) (ha : PE X a ta) (he : ∀ whole, isTrue a X.env whole = (do let v ← whole; standAt a.pos; holding [v] (truthy v))) :
    PT X a (fun σ H Q => ta σ H fun x H' => ∃ k, TruV K x H' k ∧ Q k H') := by
  subst hK
  exact pt_truth ha he
theorem op_in_seqK {X : Cx} {K : PySem.W.Frag} (hK : X.K = K) : OpR X (compareOp .In) (rIn K false) := by
  subst hK
  exact op_in_seq
theorem op_notIn_seqK {X : Cx} {K : PySem.W.Frag} (hK : X.K = K) : OpR X (compareOp .NotIn) (rIn K true) := by
  subst hK
  exact op_notIn_seq
theorem pi_listK {X : Cx} {K : PySem.W.Frag} {tg e : Expr} {te : TE} (hK : X.K = K) (he : PE X e te) : PI X tg e (iList K te) := by
  subst hK
  exact pi_list he

def topS (i : Nat) : Stmt := PySem.Challenge.pw_threadworth_k81_numbers_by_what_goes_thr.main.body.getD i (.Pass ⟨0, 0, 0, 0⟩)
abbrev s_is_size_ : Stmt := topS 12
theorem sc_is_size_ : FnScope ["n", "m"] ["n", "m"] (defScope s_is_size_) := ⟨rfl, rfl, rfl, by decide +kernel, rfl, by decide +kernel, by decide +kernel⟩
abbrev s_check_size_ : Stmt := topS 13
theorem sc_check_size_ : FnScope ["n", "m"] ["n", "m"] (defScope s_check_size_) := ⟨rfl, rfl, rfl, by decide +kernel, rfl, by decide +kernel, by decide +kernel⟩
abbrev s_is_diagram : Stmt := topS 14
theorem sc_is_diagram : FnScope ["diagram", "n", "m", "blocks", "points", "firsts", "block", "point"] ["diagram"] (defScope s_is_diagram) := ⟨rfl, rfl, rfl, by decide +kernel, rfl, by decide +kernel, by decide +kernel⟩
abbrev s_check_diagram : Stmt := topS 15
theorem sc_check_diagram : FnScope ["diagram"] ["diagram"] (defScope s_check_diagram) := ⟨rfl, rfl, rfl, by decide +kernel, rfl, by decide +kernel, by decide +kernel⟩
abbrev s_check_family : Stmt := topS 16
theorem sc_check_family : FnScope ["family"] ["family"] (defScope s_check_family) := ⟨rfl, rfl, rfl, by decide +kernel, rfl, by decide +kernel, by decide +kernel⟩
abbrev s_from_labels : Stmt := topS 17
theorem sc_from_labels : FnScope ["n", "m", "marks", "blocks", "point", "mark"] ["n", "m", "marks"] (defScope s_from_labels) := ⟨rfl, rfl, rfl, by decide +kernel, rfl, by decide +kernel, by decide +kernel⟩
abbrev s_is_in : Stmt := topS 18
theorem sc_is_in : FnScope ["family", "diagram", "n", "_", "blocks", "block"] ["family", "diagram"] (defScope s_is_in) := ⟨rfl, rfl, rfl, by decide +kernel, rfl, by decide +kernel, by decide +kernel⟩
abbrev s_is_block_of_ : Stmt := topS 19
theorem sc_is_block_of_ : FnScope ["family", "n", "block"] ["family", "n", "block"] (defScope s_is_block_of_) := ⟨rfl, rfl, rfl, by decide +kernel, rfl, by decide +kernel, by decide +kernel⟩
abbrev s_is_strand_ : Stmt := topS 20
theorem sc_is_strand_ : FnScope ["n", "block"] ["n", "block"] (defScope s_is_strand_) := ⟨rfl, rfl, rfl, by decide +kernel, rfl, by decide +kernel, by decide +kernel⟩
abbrev s_is_block_size_ : Stmt := topS 21
theorem sc_is_block_size_ : FnScope ["family", "size"] ["family", "size"] (defScope s_is_block_size_) := ⟨rfl, rfl, rfl, by decide +kernel, rfl, by decide +kernel, by decide +kernel⟩
abbrev s_counted : Stmt := topS 22
theorem sc_counted : FnScope ["family", "n", "m", "most", "t"] ["family", "n", "m"] (defScope s_counted) := ⟨rfl, rfl, rfl, by decide +kernel, rfl, by decide +kernel, by decide +kernel⟩
abbrev s_counted_by_last_ : Stmt := topS 23
theorem sc_counted_by_last_ : FnScope ["family", "size", "counts", "total", "j"] ["family", "size"] (defScope s_counted_by_last_) := ⟨rfl, rfl, rfl, by decide +kernel, rfl, by decide +kernel, by decide +kernel⟩
abbrev s_listed : Stmt := topS 24
theorem sc_listed : FnScope ["family", "n", "m", "many", "found", "row", "diagram"] ["family", "n", "m"] (defScope s_listed) := ⟨rfl, rfl, rfl, by decide +kernel, rfl, by decide +kernel, by decide +kernel⟩
abbrev s_label_rows_ : Stmt := topS 25
theorem sc_label_rows_ : FnScope ["family", "n", "m", "rows", "_", "row", "mark"] ["family", "n", "m"] (defScope s_label_rows_) := ⟨rfl, rfl, rfl, by decide +kernel, rfl, by decide +kernel, by decide +kernel⟩
abbrev s_may_follow_ : Stmt := topS 26
theorem sc_may_follow_ : FnScope ["family", "n", "row", "mark", "mates"] ["family", "n", "row", "mark"] (defScope s_may_follow_) := ⟨rfl, rfl, rfl, by decide +kernel, rfl, by decide +kernel, by decide +kernel⟩
abbrev s_by_through : Stmt := topS 28
theorem sc_by_through : FnScope ["family", "n", "m", "above", "below", "counts", "evens", "odds", "many", "ways", "_"] ["family", "n", "m"] (defScope s_by_through) := ⟨rfl, rfl, rfl, by decide +kernel, rfl, by decide +kernel, by decide +kernel⟩
abbrev s_side_counts_ : Stmt := topS 29
theorem sc_side_counts_ : FnScope ["family", "size", "counts", "total", "found", "j", "ways", "evens", "odds", "many", "key"] ["family", "size"] (defScope s_side_counts_) := ⟨rfl, rfl, rfl, by decide +kernel, rfl, by decide +kernel, by decide +kernel⟩
abbrev s_keys_with_ : Stmt := topS 30
theorem sc_keys_with_ : FnScope ["family", "j", "evens", "odds", "found"] ["family", "j", "evens", "odds"] (defScope s_keys_with_) := ⟨rfl, rfl, rfl, by decide +kernel, rfl, by decide +kernel, by decide +kernel⟩
abbrev s_may_stay_ : Stmt := topS 31
theorem sc_may_stay_ : FnScope ["family", "j"] ["family", "j"] (defScope s_may_stay_) := ⟨rfl, rfl, rfl, by decide +kernel, rfl, by decide +kernel, by decide +kernel⟩
abbrev s_law_number : Stmt := topS 33
theorem sc_law_number : FnScope ["cell"] ["cell"] (defScope s_law_number) := ⟨rfl, rfl, rfl, by decide +kernel, rfl, by decide +kernel, by decide +kernel⟩
abbrev s_law_draws : Stmt := topS 34
theorem sc_law_draws : FnScope ["script", "draws", "cell", "rest", "k", "once", "twice"] ["script"] (defScope s_law_draws) := ⟨rfl, rfl, rfl, by decide +kernel, rfl, by decide +kernel, by decide +kernel⟩
abbrev s_law_next : Stmt := topS 35
theorem sc_law_next : FnScope ["draws"] ["draws"] (defScope s_law_next) := ⟨rfl, rfl, rfl, by decide +kernel, rfl, by decide +kernel, by decide +kernel⟩
abbrev s_law_family : Stmt := topS 36
theorem sc_law_family : FnScope ["draws"] ["draws"] (defScope s_law_family) := ⟨rfl, rfl, rfl, by decide +kernel, rfl, by decide +kernel, by decide +kernel⟩
abbrev s_law_goes : Stmt := topS 37
theorem sc_law_goes : FnScope ["diagram", "block"] ["diagram"] (defScope s_law_goes) := ⟨rfl, rfl, rfl, by decide +kernel, rfl, by decide +kernel, by decide +kernel⟩
abbrev s_law_choose : Stmt := topS 38
theorem sc_law_choose : FnScope ["n", "k", "found", "at"] ["n", "k"] (defScope s_law_choose) := ⟨rfl, rfl, rfl, by decide +kernel, rfl, by decide +kernel, by decide +kernel⟩
abbrev s_law_product : Stmt := topS 39
theorem sc_law_product : FnScope ["low", "high", "step", "found", "number"] ["low", "high", "step"] (defScope s_law_product) := ⟨rfl, rfl, rfl, by decide +kernel, rfl, by decide +kernel, by decide +kernel⟩
abbrev s_law_side : Stmt := topS 40
theorem sc_law_side : FnScope ["family", "n", "t", "table", "at", "following", "one", "other", "many", "key", "ways"] ["family", "n", "t"] (defScope s_law_side) := ⟨rfl, rfl, rfl, by decide +kernel, rfl, by decide +kernel, by decide +kernel⟩
abbrev s_law_told : Stmt := topS 41
theorem sc_law_told : FnScope ["family", "n", "m", "error"] ["family", "n", "m"] (defScope s_law_told) := ⟨rfl, rfl, rfl, by decide +kernel, rfl, by decide +kernel, by decide +kernel⟩
abbrev s_law : Stmt := topS 42
theorem sc_law : FnScope ["script", "draws", "family", "n", "m", "due", "diagram", "told", "name", "t"] ["script"] (defScope s_law) := ⟨rfl, rfl, rfl, by decide +kernel, rfl, by decide +kernel, by decide +kernel⟩
structure SmL (n k : Nat) (D : PyData) : Prop where
  lay : D.canLay0 = true
  dep : D.depth ≤ n
  sho : D.showable = true
  wgt : wt D ≤ k
theorem smL_all {n k : Nat} : ∀ {ds : List PyData}, (∀ D ∈ ds, SmL n k D) → PyData.canLayAll0 ds = true ∧ PyData.depthAll ds ≤ n ∧ PyData.showableAll ds = true ∧ wtAll ds ≤ (k + 2) * ds.length
  | [], _ => ⟨by simp [PyData.canLayAll0], by simp [PyData.depthAll], by simp [PyData.showableAll], by simp [wtAll]⟩
  | D :: ds, h => by
    obtain ⟨h1, h2, h3, h4⟩ := smL_all (ds := ds) fun E hE => h E (List.mem_cons_of_mem _ hE)
    have g := h D List.mem_cons_self
    refine ⟨by simp [PyData.canLayAll0, g.lay, h1], ?_, by simp [PyData.showableAll, g.sho, h3], ?_⟩
    · simp only [PyData.depthAll]
      have := g.dep
      omega
    · simp only [wtAll, List.length_cons, Nat.mul_add]
      have := g.wgt
      omega
theorem smL_list {n k : Nat} {ds : List PyData} (h : ∀ D ∈ ds, SmL n k D) : SmL (n + 1) ((k + 2) * ds.length + 3) (.list ds) := by
  obtain ⟨h1, h2, h3, h4⟩ := smL_all h
  exact ⟨by simp [PyData.canLay0, h1], by simp only [PyData.depth]; omega, by simp [PyData.showable, h3], by simp only [wt]; omega⟩
theorem smL_tuple {n k : Nat} {ds : List PyData} (h : ∀ D ∈ ds, SmL n k D) : SmL (n + 1) ((k + 2) * ds.length + 3) (.tuple ds) := by
  obtain ⟨h1, h2, h3, h4⟩ := smL_all h
  exact ⟨by simp [PyData.canLay0, h1], by simp only [PyData.depth]; omega, by simp [PyData.showable, h3], by simp only [wt]; omega⟩
theorem SmL.shaped {n k : Nat} {D : PyData} (h : SmL n k D) (hn : n ≤ 64) : SeqAt.shaped D = true := by
  show (PyData.canLay0 D && decide (PyData.depth D ≤ 64)) = true
  rw [h.lay, decide_eq_true (Nat.le_trans h.dep hn)]
  rfl
theorem SmL.wide {n k : Nat} {D : PyData} (h : SmL n k D) (hk : k ≤ 16777216) : wt D ≤ sizeLine := by
  rw [sizeLine_eq]
  exact Nat.le_trans h.wgt hk
theorem small_log {i : Int} (h : i.natAbs < 2 ^ 200) : i.natAbs.log2 < 1920 := by
  by_cases e : i.natAbs = 0
  · rw [e]
    decide
  · exact (Nat.log2_lt e).mpr (Nat.lt_of_lt_of_le h (Nat.pow_le_pow_right (by decide) (by decide)))
theorem smL_int {i : Int} (h : i.natAbs < 2 ^ 200) : SmL 0 1921 (.int i) := ⟨by simp [PyData.canLay0], by simp [PyData.depth], by simp [PyData.showable, small_log h], by simp only [wt]; omega⟩
theorem smL_pair {u v : Int} (hu : u.natAbs < 2 ^ 200) (hv : v.natAbs < 2 ^ 200) : SmL 1 4000 (.tuple [.int u, .int v]) := by
  have h := smL_tuple (ds := [.int u, .int v]) (n := 0) (k := 1921) fun D hD => by
    rcases List.mem_cons.mp hD with rfl | hD
    · exact smL_int hu
    · rcases List.mem_cons.mp hD with rfl | hD
      · exact smL_int hv
      · cases hD
  exact ⟨h.lay, h.dep, h.sho, Nat.le_trans h.wgt (by show (1921 + 2) * 2 + 3 ≤ 4000; decide)⟩
theorem ok_n : PyData.strOk ("!n" : Str) = true := by decide +kernel
theorem ok_b : PyData.strOk ("!b" : Str) = true := by decide +kernel
theorem ok_w : PyData.strOk ("!w" : Str) = true := by decide +kernel
theorem rl_n : (reprText ("!n" : Str)).length = 4 := by decide +kernel
theorem rl_b : (reprText ("!b" : Str)).length = 4 := by decide +kernel
theorem rl_w : (reprText ("!w" : Str)).length = 4 := by decide +kernel
theorem smL_n : SmL 1 4000 (.str "!n") := ⟨by simp [PyData.canLay0, ok_n], by simp [PyData.depth], by simp [PyData.showable], by simp only [wt, rl_n]; omega⟩
theorem smL_b : SmL 1 4000 (.str "!b") := ⟨by simp [PyData.canLay0, ok_b], by simp [PyData.depth], by simp [PyData.showable], by simp only [wt, rl_b]; omega⟩
theorem smL_w : SmL 1 4000 (.str "!w") := ⟨by simp [PyData.canLay0, ok_w], by simp [PyData.depth], by simp [PyData.showable], by simp only [wt, rl_w]; omega⟩
theorem smL_non : SmL 1 4000 .none := ⟨by simp [PyData.canLay0], by simp [PyData.depth], by simp [PyData.showable], by simp only [wt]; omega⟩
theorem smL_bool (b : Bool) : SmL 1 4000 (.bool b) := ⟨by simp [PyData.canLay0], by simp [PyData.depth], by simp [PyData.showable], by simp only [wt]; omega⟩

section
variable {P : Program} {w : World} {K : PySem.W.Frag} {mg : Str → Option Value} {base : Heap}
/-! ### _law_number -/
def spPlain : Sp := fun vs H Q _ => ∃ n : Int, vs = [.int n] ∧ Q (.int (if n < 0 then -n else n)) H
theorem ok_plain {f : Addr} {fd : FuncData} (F : Fun K "_law_number" "_law_number" s_law_number f fd) : FnOk P w K mg base CX0 1 f fd ["cell"] spPlain := by
  refine F.ok sc_law_number (fun vs H Q E h => ?_) (fun cdv A outer s H vs Q E hr h => ?_)
  · obtain ⟨n, rfl, _⟩ := h
    rfl
  · obtain ⟨n, rfl, q⟩ := h
    refine ⟨_, (pss_cons (ps_if (pt_cmpR op_lt (pv 0) pe_int (nomark _)) (pss_one (ps_ret (pe_op op_sub pe_int (pv 0)))) pss_nil)
  (pss_one (ps_ret (pv 0))))
    , ?_⟩
    refine ⟨_, rfl, _, _, rfl, rfl, _, rfl, ite2 (fun e => ?_) (fun e => ?_)⟩
    · rw [if_pos (of_decide_eq_true e)] at q
      have q' : Q (.int (0 - n)) H := by
        rw [show (0 : Int) - n = -n by omega]
        exact q
      exact ⟨_, rfl, _, _, rfl, rfl, q'⟩
    · rw [if_neg (fun z => e (decide_eq_true z))] at q
      exact ⟨_, rfl, q⟩
end

section
variable {P : Program} {w : World} {K : PySem.W.Frag} {mg : Str → Option Value} {base : Heap}
/-! ### _law_next -/
def spNext : Sp := fun vs H Q _ => ∃ (a : Addr) (ds : List Int), vs = [.ref a] ∧ H a = some (.lst (ds.map V.int)) ∧ ∀ (n : Int) (ds' : List Int), Q (.int n) (upd H a (.lst (ds'.map V.int)))
theorem ok_next {f : Addr} {fd : FuncData} (F : Fun K "_law_next" "_law_next" s_law_next f fd) : FnOk P w K mg base CX0 1 f fd ["draws"] spNext := by
  refine F.ok sc_law_next (fun vs H Q E h => ?_) (fun cdv A outer s H vs Q E hr h => ?_)
  · obtain ⟨a, ds, rfl, _⟩ := h
    rfl
  · obtain ⟨a, ds, rfl, hL, q⟩ := h
    refine ⟨_, (pss_cons (ps_if (pt_truth (pv 0) (by intro _; rfl)) (pss_one (ps_ret (pe_bm0 PySem.F.plainAttrs_list PySem.F.slot_list_pop PySem.F.type_list_pop mt_pop (pv 0)))) pss_nil)
  (pss_one (ps_ret pe_int)))
    , ?_⟩
    refine ⟨_, rfl, _, .inl ⟨_, .inl (.inl hL), rfl⟩, ite2 (fun e => ?_) (fun e => ?_)⟩
    · have hn : ds ≠ [] := fun z => by subst z; cases e
      have hm : ds.map V.int = ds.dropLast.map V.int ++ [V.int (ds.getLast hn)] := by
        rw [← List.map_singleton, ← List.map_append, List.dropLast_concat_getLast]
      refine ⟨_, rfl, .inl ⟨rfl, _, .inl (.inl hL)⟩, a, _, .int (ds.getLast hn), rfl, rfl, hL, ?_, ?_⟩
      · rw [hm]; simp
      · rw [hm, List.dropLast_concat]
        exact q _ _
    · have := q 0 ds
      rw [upd_self hL] at this
      exact this
end

section
variable {P : Program} {w : World} {K : PySem.W.Frag} {mg : Str → Option Value} {base : Heap}
/-! ### _law_draws -/
def spDraws (K : PySem.W.Frag) : Sp := fun vs H Q _ => ∃ (a : Addr) (ns : List Int), vs = [.ref a] ∧ SqL K H a (ns.map V.int) ∧ ns.length ≤ 63 ∧
  ∀ H' r (ds : List Int), Same H H' → H r = none → H' r = some (.lst (ds.map V.int)) → Q (.ref r) H'
theorem ok_draws {f : Addr} {fd : FuncData} {a_law_number : Addr} {fd_law_number : FuncData} (F : Fun K "_law_draws" "_law_draws" s_law_draws f fd) (z_range : mg "range" = none) (z_int : mg "int" = none)
    (G_law_number : FnOk P w K mg base CX0 1 a_law_number fd_law_number ["cell"] spPlain) (g_law_number : mg "_law_number" = some (.ref a_law_number)) (k_law_number : PySem.W.keepIn K (.ref a_law_number) = true) (b_law_number : Binds K fd_law_number ["cell"] []) :
    FnOk P w K mg base CX0 2 f fd ["script"] (spDraws K) := by
  refine F.ok sc_law_draws (fun vs H Q E h => ?_) (fun cdv A outer s H vs Q E hr h => ?_)
  · obtain ⟨n, _, rfl, _⟩ := h
    rfl
  · obtain ⟨a, ns, rfl, hS, hlen, q⟩ := h
    refine ⟨_, (pss_cons (ps_set (i := 1) sc_law_draws.nd rfl (.inl rfl) (pe_lst pa_nil))
  (pss_cons (ps_for PassesOwn.never rfl (pi_list (pv 0)) (pg_name (i := 2) sc_law_draws.nd rfl (.inl rfl)) (pss_cons (ps_set (i := 3) sc_law_draws.nd rfl (.inl rfl) (pe_call G_law_number (hr.mono (by decide)) rfl g_law_number k_law_number b_law_number .nil pass0 (pa_cons (pv 2) pa_nil)))
  (pss_one (ps_if (pt_cmpR op_ge (pv 3) pe_int (nomark _)) (pss_one (ps_for PassesOwn.never rfl (pi_range1 rfl z_range (pa_cons pe_int pa_nil)) (pg_name (i := 4) sc_law_draws.nd rfl (.inl rfl)) (pss_cons (ps_if (pt_cmpR op_eq (pv 3) pe_int (nomark _)) (pss_one ps_break) pss_nil)
  (pss_cons (ps_expr (pe_bm PySem.F.plainAttrs_list PySem.F.slot_list_append PySem.F.type_list_append mt_append (pv 1) (pa_cons (pe_op op_mod (pe_callTy call_int1 (by rfl) z_int boot_int (pa_cons (pv 3) pa_nil)) pe_int) pa_nil)))
  (pss_one (ps_set (i := 3) sc_law_draws.nd rfl (.inl rfl) (pe_op op_fdiv (pv 3) pe_int))))))) (pss_cons (ps_set (i := 5) sc_law_draws.nd rfl (.inl rfl) (pe_op op_mod (pe_callTy call_int1 (by rfl) z_int boot_int (pa_cons (pe_op op_add (pe_op op_mul (pv 3) pe_int) pe_int) pa_nil)) pe_int))
  (pss_cons (ps_set (i := 6) sc_law_draws.nd rfl (.inl rfl) (pe_op op_mod (pe_callTy call_int1 (by rfl) z_int boot_int (pa_cons (pe_op op_add (pe_op op_mul (pv 5) pe_int) (pv 3)) pa_nil)) pe_int))
  (pss_one (ps_expr (pe_bm PySem.F.plainAttrs_list PySem.F.slot_list_extend PySem.F.type_list_extend mt_extend (pv 1) (pa_cons (pe_lst (pa_cons (pe_op op_mod (pe_callTy call_int1 (by rfl) z_int boot_int (pa_cons (pv 3) pa_nil)) pe_int) (pa_cons (pe_op op_mod (pe_callTy call_int1 (by rfl) z_int boot_int (pa_cons (pv 5) pa_nil)) pe_int) (pa_cons (pe_op op_mod (pe_callTy call_int1 (by rfl) z_int boot_int (pa_cons (pv 6) pa_nil)) pe_int) pa_nil)))) pa_nil))))))))))
  (pss_one (ps_ret (pv 1)))))
    , ?_⟩
    refine ⟨Nat.zero_le _, fun o no => ?_⟩
    have s1 : Same H (upd H o (.lst [])) := same_upd no
    refine ⟨.ref a, rfl, a, rfl, ⟨_, s1.seq hS⟩, for_list (K := K) (a := a) (xs := ns.map V.int) (fun i σ H' => ∃ v2 v3 v4 v5 v6 ds, σ = [some (.ref a), some (.ref o), v2, v3, v4, v5, v6] ∧ Same H H' ∧ H' o = some (.lst (ds.map V.int)) ∧ ds.length ≤ 60 * i)
      ⟨none, none, none, none, none, [], rfl, s1, upd_same, Nat.le_refl _⟩ (fun i σ H' _ ⟨_, _, _, _, _, _, _, sm, _⟩ => sm.seq hS) ?_ ?_⟩
    · rintro i y σ H1 hi ⟨v2, v3, v4, v5, v6, ds, rfl, sm, hL, hl⟩
      have hi63 : i < 63 := by
        have := (List.getElem?_eq_some_iff.mp hi).1
        rw [List.length_map] at this
        omega
      obtain ⟨z, hz, rfl⟩ := map_int_get hi
      refine ⟨_, rfl, z, rfl, ?_⟩
      generalize hr0 : (if z < 0 then -z else z) = r0
      have h0 : 0 ≤ r0 := by
        subst hr0
        split <;> omega
      refine ⟨_, rfl, _, _, rfl, rfl, _, rfl, ite2 (fun e => ?_) (fun e => ?_)⟩
      · refine ⟨60, rfl, by decide, by decide, for_range (lo := 0) (n := 60) (fun j σ H' => ∃ r v4 ds', σ = [some (.ref a), some (.ref o), some (.int z), some (.int r), v4, v5, v6] ∧ 0 ≤ r ∧ Same H H' ∧ H' o = some (.lst (ds'.map V.int)) ∧ ds'.length ≤ 60 * i + j)
          ⟨r0, v4, ds, rfl, h0, sm, hL, hl⟩ ?_ ?_⟩
        · rintro j σ H2 hj ⟨r, v4', ds', rfl, hr0', sm2, hL2, hl2⟩
          refine ⟨_, rfl, rfl, _, rfl, ite2 (fun e1 => ?_) (fun e1 => ?_)⟩
          · exact ⟨_, _, _, _, _, ds', rfl, sm2, hL2, by omega⟩
          · refine ⟨.ref o, rfl, .inl ⟨rfl, _, .inl (.inl hL2)⟩, .int r, rfl, .inl ⟨r, rfl, r, 1000, rfl, rfl, (show (0:Int) < 1000 by decide), o, _, _, rfl, rfl, hL2, ?_, ?_⟩⟩
            · rw [List.length_map]
              exact small_of (by omega)
            · refine ⟨_, rfl, r, 1000, rfl, rfl, ⟨by decide, by decide⟩, ?_⟩
              refine ⟨r / 1000, _, ds' ++ [r % 1000], rfl, by omega, Same.mut sm2 no, ?_, ?_⟩
              · rw [upd_same, List.map_append]
                rfl
              · rw [List.length_append]
                show ds'.length + 1 ≤ _
                omega
        · rintro σ H2 ⟨r, v4', ds', rfl, hr0', sm2, hL2, hl2⟩
          exact ⟨_, _, _, _, _, ds', rfl, sm2, hL2, by omega⟩
      · have c1 : CMul r0 48271 := .inr ⟨by decide, by decide⟩
        refine ⟨.int r0, rfl, r0, 48271, rfl, rfl, c1, _, 11, rfl, rfl, .inl ⟨_, rfl, _, 2147483647, rfl, rfl, (show (0:Int) < 2147483647 by decide), ?_⟩⟩
        have c2 : ∀ x : Int, CMul x 69621 := fun _ => .inr ⟨by decide, by decide⟩
        refine ⟨_, rfl, _, 69621, rfl, rfl, c2 _, .int r0, rfl, _, r0, rfl, rfl, .inl ⟨_, rfl, _, 2147483629, rfl, rfl, (show (0:Int) < 2147483629 by decide), ?_⟩⟩
        have p1000 : (0:Int) < 1000 := by decide
        refine ⟨.ref o, rfl, .inl ⟨rfl, _, .inl (.inl hL)⟩, ?_⟩
        refine ⟨.int r0, rfl, .inl ⟨r0, rfl, r0, 1000, rfl, rfl, p1000, _, rfl, .inl ⟨_, rfl, _, 1000, rfl, rfl, p1000, _, rfl, .inl ⟨_, rfl, _, 1000, rfl, rfl, p1000, ?_⟩⟩⟩⟩
        refine ⟨(by show 3 ≤ sizeLine; decide), fun c nc => ?_⟩
        have hoc : o ≠ c := ne_of_none hL nc
        refine ⟨o, c, ds.map V.int, _, rfl, rfl, ?_, upd_same, ?_, ?_⟩
        · rw [upd_ne hoc]
          exact hL
        · rw [List.length_map]
          exact Nat.le_of_lt (small_of (show ds.length + 3 ≤ 100000 by omega))
        · refine ⟨_, _, _, _, _, ds ++ [r0 % 1000, (r0 * 48271 + 11) % 2147483647 % 1000, ((r0 * 48271 + 11) % 2147483647 * 69621 + r0) % 2147483629 % 1000], rfl, Same.mut (Same.trans sm (same_upd nc)) no, ?_, ?_⟩
          · rw [upd_same, List.map_append]
            rfl
          · rw [List.length_append]
            show ds.length + 3 ≤ _
            omega
    · rintro σ H1 ⟨v2, v3, v4, v5, v6, ds, rfl, sm, hL, hl⟩
      exact ⟨_, rfl, q H1 o ds sm no hL⟩
end

def fams : List Str := ["threads", "loose", "pairs", "lonepairs", "even", "parts"]

section
variable {P : Program} {w : World} {K : PySem.W.Frag} {mg : Str → Option Value} {base : Heap}
/-! ### _law_family (where a law has no _law_pick) -/
def spFamily : Sp := fun vs H Q _ => ∃ (r : Addr) (ds : List Int), vs = [.ref r] ∧ H r = some (.lst (ds.map V.int)) ∧ ∀ (z : Str) (ds' : List Int) (H' : Hp), z ∈ fams → SameBut r H H' → H' r = some (.lst (ds'.map V.int)) → Q (.str z) H'
theorem ok_law_family {f a_law_next : Addr} {fd fd_law_next : FuncData} (F : Fun K "_law_family" "_law_family" s_law_family f fd) (z_int : mg "int" = none)
    (G_law_next : FnOk P w K mg base CX0 1 a_law_next fd_law_next ["draws"] spNext) (g_law_next : mg "_law_next" = some (.ref a_law_next)) (k_law_next : PySem.W.keepIn K (.ref a_law_next) = true) (b_law_next : Binds K fd_law_next ["draws"] []) : FnOk P w K mg base CX0 2 f fd ["draws"] spFamily := by
  refine F.ok sc_law_family (fun vs H Q E h => ?_) (fun cdv A outer s H vs Q E hr h => ?_)
  · obtain ⟨r, ds, rfl, _⟩ := h
    rfl
  · obtain ⟨r, ds, rfl, hL, q⟩ := h
    refine ⟨_, (pss_one (ps_ret (pe_ix ix_list (pe_lst (pa_cons pe_str (pa_cons pe_str (pa_cons pe_str (pa_cons pe_str (pa_cons pe_str (pa_cons pe_str pa_nil))))))) (pe_op op_mod (pe_callTy call_int1 (by rfl) z_int boot_int (pa_cons (pe_call G_law_next (hr.mono (by decide)) rfl g_law_next k_law_next b_law_next .nil pass0 (pa_cons (pv 0) pa_nil)) pa_nil)) pe_int) (fun _ _ => rfl)))), ?_⟩
    refine ⟨(by show 6 ≤ sizeLine; decide), fun p np => ?_⟩
    have nrp : r ≠ p := ne_of_none hL np
    refine ⟨_, rfl, r, ds, rfl, (by rw [upd_ne nrp]; exact hL), fun n0 ds0 => .inl ⟨n0, rfl, n0, 6, rfl, rfl, (show (0 : Int) < 6 by decide), ?_⟩⟩
    have m := mod_lt8 n0 (show (0 : Int) < 6 by decide)
    obtain ⟨k, hk, ek⟩ : ∃ k : Nat, k < 6 ∧ n0 % 6 = (k : Int) := ⟨(n0 % 6).toNat, by omega, by omega⟩
    dsimp only
    rw [ek]
    have go : ∀ z : Str, z ∈ fams → Q (.str z) (upd (upd H p (.lst [.str "threads", .str "loose", .str "pairs", .str "lonepairs", .str "even", .str "parts"])) r (.lst (ds0.map V.int))) := fun z mz => q z ds0 _ mz (fun b o nb hb => by rw [upd_ne nb, upd_ne (ne_of_none hb np)]; exact hb) upd_same
    obtain ⟨z, mz, ez⟩ : ∃ z : Str, z ∈ fams ∧ [V.str "threads", .str "loose", .str "pairs", .str "lonepairs", .str "even", .str "parts"][k]? = some (.str z) := by
      match k, hk with
      | 0, _ => exact ⟨fams[0]'(by decide), List.getElem_mem _, rfl⟩
      | 1, _ => exact ⟨fams[1]'(by decide), List.getElem_mem _, rfl⟩
      | 2, _ => exact ⟨fams[2]'(by decide), List.getElem_mem _, rfl⟩
      | 3, _ => exact ⟨fams[3]'(by decide), List.getElem_mem _, rfl⟩
      | 4, _ => exact ⟨fams[4]'(by decide), List.getElem_mem _, rfl⟩
      | 5, _ => exact ⟨fams[5]'(by decide), List.getElem_mem _, rfl⟩
    exact ⟨p, _, _, _, rfl, rfl, .inl (.inl (by rw [upd_ne (Ne.symm nrp), upd_same])), atI_nat ez, go z mz⟩
end

theorem sqL_same {K : PySem.W.Frag} {H H' : Hp} {a : Addr} {xs : List V} (e : Same H H') (h : SqL K H a xs) : SqL K H' a xs := by
  rcases h with (h | ⟨o, h⟩) | h
  · exact .inl (.inl (e _ _ h))
  · exact .inl (.inr ⟨o, e _ _ h⟩)
  · exact .inr h
theorem none_back {H H' : Hp} {a : Addr} (s : Same H H') (h : H' a = none) : H a = none := by
  cases e : H a with
  | none => rfl
  | some o =>
    rw [s _ _ e] at h
    exact nomatch h

/-- a tuple of these integers -/
def TP (H : Hp) (v : V) (z : List Int) : Prop := ∃ t, v = .ref t ∧ H t = some (.tup (z.map V.int))
theorem TP.same {H H' : Hp} {v : V} {z : List Int} (s : Same H H') (h : TP H v z) : TP H' v z := by
  obtain ⟨t, rfl, h⟩ := h
  exact ⟨t, rfl, s _ _ h⟩
def dT (z : List Int) : PyData := .tuple (z.map PyData.int)
theorem ints_dp {K : PySem.W.Frag} {H : Hp} : ∀ z : List Int, DpAll K H (z.map V.int) (z.map PyData.int)
  | [] => .nil
  | a :: r => .cons (.int a) (ints_dp r)
theorem TP.dp {K : PySem.W.Frag} {H : Hp} {v : V} {z : List Int} (h : TP H v z) : Dp K H v (dT z) := by
  obtain ⟨t, rfl, h⟩ := h
  exact .tup (.inl (.inl h)) (ints_dp z)
theorem tps_dp {K : PySem.W.Frag} {H : Hp} : ∀ {vs : List V} {zs : List (List Int)}, Paired (TP H) vs zs → DpAll K H vs (zs.map dT)
  | _, _, .nil => .nil
  | _, _, .cons a b => .cons a.dp (tps_dp b)
theorem paired_add {α β : Type} {F : α → β → Prop} {a : α} {b : β} (h : F a b) : ∀ {l : List α} {m : List β}, Paired F l m → Paired F (l ++ [a]) (m ++ [b])
  | _, _, .nil => .cons h .nil
  | _, _, .cons x y => .cons x (paired_add h y)
theorem dT_small {z : List Int} (h : ∀ k, (co z k).natAbs < 2 ^ 200) : SmL 1 (1923 * z.length + 3) (dT z) := by
  have e := smL_tuple (ds := z.map PyData.int) (n := 0) (k := 1921) fun D hD => by
    obtain ⟨a, ha, rfl⟩ := List.mem_map.mp hD
    obtain ⟨i, hi, rfl⟩ := List.mem_iff_getElem.mp ha
    have e1 := co_get hi
    rw [List.getElem?_eq_getElem hi] at e1
    rw [Option.some.inj e1]
    exact smL_int (h i)
  rw [List.length_map] at e
  exact e
theorem SmL.more {n k k' : Nat} {D : PyData} (h : SmL n k D) (hk : k ≤ k') : SmL n k' D := by
  obtain ⟨h1, h2, h3, h4⟩ := h
  exact ⟨h1, h2, h3, Nat.le_trans h4 hk⟩
theorem repT {α : Type} (x : α) : ∀ n : Nat, (List.replicate n [x]).flatten = List.replicate n x
  | 0 => rfl
  | n + 1 => by rw [List.replicate_succ, List.flatten_cons, repT x n, List.replicate_succ]; rfl
def rCatB (K : PySem.W.Frag) : R2 := fun x y H Q => ∃ a b xs ys, x = .ref a ∧ y = .ref b ∧ SqT K H a xs ∧ SqT K H b ys ∧ xs.length + ys.length ≤ sizeLine ∧ ∀ p H', Same H H' → SqT K H' p (xs ++ ys) → Q (.ref p) H'
theorem op_catB {X : Cx} : OpR X (binaryOp .Add) (rCatB X.K) := by
  intro pins s σ H x y v u Q I rx ry h
  obtain ⟨a, b, xs, ys, rfl, rfl, ha, hb, hz, q⟩ := h
  refine op_catA pins s σ H _ _ v u Q I rx ry ⟨a, b, xs, ys, rfl, rfl, ha, hb, hz, fun e => ?_, fun _ e => ?_, fun _ _ p np => ?_⟩
  · exact q b H (Same.refl _) (by rw [e, List.nil_append]; exact hb)
  · exact q a H (Same.refl _) (by rw [e, List.append_nil]; exact ha)
  · exact q p _ (same_upd np) (.inl (.inl upd_same))
theorem sqT_butL {K : PySem.W.Frag} {H H' : Hp} {r a : Addr} {xs ys : List V} (hr : H r = some (.lst ys)) (e : SameBut r H H') (h : SqT K H a xs) : SqT K H' a xs := by
  rcases h with (h | ⟨o, h⟩) | h
  · exact .inl (.inl (e _ _ (ne_of h hr (fun z => nomatch z)) h))
  · exact .inl (.inr ⟨o, e _ _ (ne_of h hr (fun z => nomatch z)) h⟩)
  · exact .inr h
theorem eqvAll_ints : ∀ x y : List Int, PyData.eqvAll (x.map PyData.int) (y.map PyData.int) = decide (x = y)
  | [], [] => by simp [PyData.eqvAll]
  | [], _ :: _ => by simp [PyData.eqvAll]
  | _ :: _, [] => by simp [PyData.eqvAll]
  | a :: x, b :: y => by
    rw [List.map_cons, List.map_cons]
    simp only [PyData.eqvAll, PyData.eqv, eqvAll_ints x y]
    by_cases h1 : a = b
    · by_cases h2 : x = y
      · simp [h1, h2]
      · simp [h2]
    · simp [h1]
theorem eqv_dT (x y : List Int) : PyData.eqv (dT x) (dT y) = decide (x = y) := by
  unfold dT
  simp only [PyData.eqv, eqvAll_ints]
theorem lay_ints : ∀ x : List Int, PyData.canLayAll0 (x.map PyData.int) = true ∧ PyData.depthAll (x.map PyData.int) = 0
  | [] => ⟨by simp [PyData.canLayAll0], by simp [PyData.depthAll]⟩
  | a :: x => by
    obtain ⟨h1, h2⟩ := lay_ints x
    exact ⟨by simp [PyData.canLayAll0, PyData.canLay0, h1], by simp [PyData.depthAll, PyData.depth, h2]⟩
theorem dT_shaped (x : List Int) : SeqAt.shaped (dT x) = true := by
  obtain ⟨h1, h2⟩ := lay_ints x
  show (PyData.canLay0 (dT x) && decide (PyData.depth (dT x) ≤ 64)) = true
  unfold dT
  rw [show PyData.canLay0 (.tuple (x.map PyData.int)) = true by simp [PyData.canLay0, h1], show PyData.depth (.tuple (x.map PyData.int)) = 1 by simp [PyData.depth, h2]]
  rfl
theorem eqD_TP {K : PySem.W.Frag} {H : Hp} {u v : V} {x y : List Int} {Q : VK} (hx : TP H u x) (hy : TP H v y) (q : Q (.bl (decide (x = y))) H) : rEqD K u v H Q :=
  ⟨_, _, hx.dp, hy.dp, dT_shaped x, dT_shaped y, by rw [eqv_dT]; exact q⟩
theorem neD_TP {K : PySem.W.Frag} {H : Hp} {u v : V} {x y : List Int} {Q : VK} (hx : TP H u x) (hy : TP H v y) (q : Q (.bl (!decide (x = y))) H) : rNeD K u v H Q :=
  ⟨_, _, hx.dp, hy.dp, dT_shaped x, dT_shaped y, by rw [eqv_dT]; exact q⟩
def rRepB (K : PySem.W.Frag) : R2 := fun x y H Q => ∃ l k xs, x = .ref l ∧ y = .int k ∧ SqT K H l xs ∧ xs ≠ [] ∧ 0 ≤ k ∧ k ≤ 1000 ∧ xs.length ≤ 1000 ∧ ∀ p H', Same H H' → SqT K H' p (List.replicate k.toNat xs).flatten → Q (.ref p) H'
theorem op_repB {X : Cx} : OpR X (binaryOp .Mult) (rRepB X.K) := by
  intro pins s σ H x y v u Q I rx ry h
  obtain ⟨l, k, xs, rfl, rfl, hT, hne, h1, h2, hz, q⟩ := h
  refine op_repA pins s σ H _ _ v u Q I rx ry ⟨l, k, xs, rfl, rfl, hT, hne, h1, h2, hz, fun e => ?_, fun _ p np => ?_⟩
  · refine q l H (Same.refl _) ?_
    rw [e, show (1 : Int).toNat = 1 from rfl]
    simpa using hT
  · exact q p _ (same_upd np) (.inl (.inl upd_same))
theorem ix_tupK {X : Cx} {K : PySem.W.Frag} (hK : X.K = K) : IxR X (rIxT K) := by
  subst hK
  exact ix_tup
theorem ix_listK {X : Cx} {K : PySem.W.Frag} (hK : X.K = K) : IxR X (rIxL K) := by
  subst hK
  exact ix_list
theorem ite_same {x : V} {A B : Prop} (h : B) : if (!decide (x = x)) = true then A else B := by
  rw [decide_eq_true rfl]
  exact iteF h
theorem pi_tupK {X : Cx} {K : PySem.W.Frag} {tg e : Expr} {te : TE} (hK : X.K = K) (he : PE X e te) : PI X tg e (iTup K te) := by
  subst hK
  exact pi_tup he
theorem call_list_ofK {X : Cx} {K : PySem.W.Frag} (hK : X.K = K) : CallR X (.type "list") (fun xs H Q => ∃ p ys, xs = [.ref p] ∧ (SqL K H p ys ∨ SqT K H p ys) ∧ ∀ l, H l = none → Q (.ref l) (upd H l (.lst ys))) := by
  subst hK
  exact call_list_of
theorem op_eqDK {X : Cx} {K : PySem.W.Frag} (hK : X.K = K) (hu : X.A.units + 64 < cLine) : OpR X (compareOp .Eq) (rEqD K) := by
  subst hK
  exact op_eqD hu

/-! ### marks and blocks -/
def seenL : List Int → List Int → List Int
  | acc, [] => acc
  | acc, x :: l => seenL (if x ∈ acc then acc else acc ++ [x]) l
def ixs (N : Nat) : List Int := (List.range N).map fun (i : Nat) => (i : Int)
def posOf (marks : List Int) (v : Int) : List Int := ((List.range marks.length).filter fun i => decide (co marks i = v)).map fun (i : Nat) => (i : Int)
def blocksOf (marks : List Int) : List (List Int) := (seenL [] marks).map (posOf marks)
theorem seenL_snoc : ∀ (l acc : List Int) (x : Int), seenL acc (l ++ [x]) = if x ∈ seenL acc l then seenL acc l else seenL acc l ++ [x]
  | [], acc, x => rfl
  | y :: l, acc, x => by
    show seenL _ (l ++ [x]) = _
    rw [seenL_snoc l _ x]
    rfl
theorem seenL_sub : ∀ (l acc : List Int) (x : Int), x ∈ acc → x ∈ seenL acc l
  | [], _, _, h => h
  | y :: l, acc, x, h => by
    show x ∈ seenL _ l
    refine seenL_sub l _ x ?_
    split
    · exact h
    · exact List.mem_append_left _ h
theorem seenL_mem : ∀ (l acc : List Int) (x : Int), x ∈ seenL acc l ↔ x ∈ acc ∨ x ∈ l
  | [], acc, x => by
    show x ∈ acc ↔ _
    simp
  | y :: l, acc, x => by
    show x ∈ seenL _ l ↔ _
    rw [seenL_mem l _ x]
    by_cases c : y ∈ acc
    · rw [if_pos c, List.mem_cons]
      constructor
      · rintro (h | h)
        · exact .inl h
        · exact .inr (.inr h)
      · rintro (h | rfl | h)
        · exact .inl h
        · exact .inl c
        · exact .inr h
    · rw [if_neg c, List.mem_cons, List.mem_append, List.mem_singleton, or_assoc]
theorem seenL_nodup : ∀ (l acc : List Int), acc.Nodup → (seenL acc l).Nodup
  | [], _, h => h
  | y :: l, acc, h => by
    refine seenL_nodup l _ ?_
    split
    · exact h
    · rename_i c
      refine List.nodup_append.mpr ⟨h, by simp, fun a ha b hb => ?_⟩
      rw [List.mem_singleton.mp hb]
      exact fun z => c (z ▸ ha)
theorem seenL_len : ∀ (l acc : List Int), (seenL acc l).length ≤ acc.length + l.length
  | [], _ => Nat.le_refl _
  | y :: l, acc => by
    have h := seenL_len l (if y ∈ acc then acc else acc ++ [y])
    show (seenL _ l).length ≤ _
    rw [List.length_cons]
    split at h
    · rename_i c
      rw [if_pos c]
      omega
    · rename_i c
      rw [if_neg c]
      rw [List.length_append] at h
      have : [y].length = 1 := rfl
      omega
/-- equal marks alone count -/
theorem seenL_map {g : Int → Int} : ∀ (l acc : List Int), (∀ x ∈ acc ++ l, ∀ y ∈ acc ++ l, g x = g y → x = y) → seenL (acc.map g) (l.map g) = (seenL acc l).map g
  | [], _, _ => rfl
  | y :: l, acc, h => by
    show seenL (if g y ∈ acc.map g then acc.map g else acc.map g ++ [g y]) (l.map g) = (seenL (if y ∈ acc then acc else acc ++ [y]) l).map g
    by_cases c : y ∈ acc
    · rw [if_pos c, if_pos (List.mem_map_of_mem c)]
      refine seenL_map l acc fun a ha b hb => h a ?_ b ?_
      · rcases List.mem_append.mp ha with z | z
        · exact List.mem_append_left _ z
        · exact List.mem_append_right _ (List.mem_cons_of_mem _ z)
      · rcases List.mem_append.mp hb with z | z
        · exact List.mem_append_left _ z
        · exact List.mem_append_right _ (List.mem_cons_of_mem _ z)
    · have c2 : g y ∉ acc.map g := fun z => by
        obtain ⟨a, ha, e⟩ := List.mem_map.mp z
        exact c (h a (List.mem_append_left _ ha) y (List.mem_append_right _ List.mem_cons_self) e ▸ ha)
      rw [if_neg c, if_neg c2, show acc.map g ++ [g y] = (acc ++ [y]).map g by rw [List.map_append]; rfl]
      refine seenL_map l (acc ++ [y]) fun a ha b hb => h a ?_ b ?_
      · rwa [List.append_assoc] at ha
      · rwa [List.append_assoc] at hb
theorem co_mapI (g : Int → Int) (l : List Int) {i : Nat} (h : i < l.length) : co (l.map g) i = g (co l i) := by
  have e := co_get (l := l.map g) (k := i) (by rw [List.length_map]; exact h)
  rw [List.getElem?_map, co_get h] at e
  exact (Option.some.inj e).symm
theorem posOf_map {g : Int → Int} {marks : List Int} {v : Int} (hv : v ∈ marks) (h : ∀ x ∈ marks, ∀ y ∈ marks, g x = g y → x = y) : posOf (marks.map g) (g v) = posOf marks v := by
  unfold posOf
  rw [List.length_map]
  congr 1
  refine List.filter_congr fun i hi => ?_
  have hi' := List.mem_range.mp hi
  rw [co_mapI g marks hi']
  by_cases c : co marks i = v
  · rw [decide_eq_true c, decide_eq_true (congrArg g c)]
  · rw [decide_eq_false c, decide_eq_false (fun z => c (h _ (co_mem hi') _ hv z))]
theorem blocksOf_map {g : Int → Int} {marks : List Int} (h : ∀ x ∈ marks, ∀ y ∈ marks, g x = g y → x = y) : blocksOf (marks.map g) = blocksOf marks := by
  unfold blocksOf
  rw [show ([] : List Int) = ([] : List Int).map g from rfl, seenL_map marks [] (by rw [List.nil_append]; exact h), List.map_map]
  refine List.map_congr_left fun v hv => ?_
  rcases (seenL_mem marks [] v).mp hv with z | z
  · exact nomatch z
  · exact posOf_map z h
/-! a partition -/
theorem perm_split (p : Nat → Bool) : ∀ l : List Nat, (l.filter p ++ l.filter fun x => !p x).Perm l := fun l => List.filter_append_perm p l
theorem part_perm {f : Nat → Int} : ∀ (vs : List Int) (l : List Nat), vs.Nodup → (∀ x ∈ l, f x ∈ vs) → ((vs.map fun v => l.filter fun i => decide (f i = v)).flatten).Perm l
  | [], l, _, h => by
    have : l = [] := List.eq_nil_iff_forall_not_mem.mpr fun x hx => nomatch h x hx
    rw [this]
    exact .refl _
  | v :: vs, l, nd, h => by
    rw [List.map_cons, List.flatten_cons]
    obtain ⟨nv, nd'⟩ := List.nodup_cons.mp nd
    have ih := part_perm (f := f) vs (l.filter fun i => !decide (f i = v)) nd' fun x hx => by
      obtain ⟨h1, h2⟩ := List.mem_filter.mp hx
      rcases List.mem_cons.mp (h x h1) with e | e
      · rw [decide_eq_true e] at h2
        exact nomatch h2
      · exact e
    have e : (vs.map fun v' => (l.filter fun i => !decide (f i = v)).filter fun i => decide (f i = v')) = vs.map fun v' => l.filter fun i => decide (f i = v') := by
      refine List.map_congr_left fun v' hv' => ?_
      rw [List.filter_filter]
      refine List.filter_congr fun i _ => ?_
      by_cases c : f i = v'
      · have c2 : f i ≠ v := fun z => nv (by rw [← z, c]; exact hv')
        rw [decide_eq_true c, decide_eq_false c2]
        rfl
      · rw [decide_eq_false c]
        rfl
    rw [e] at ih
    exact (List.Perm.append_left _ ih).trans (perm_split _ l)
theorem mem_posOf {marks : List Int} {v x : Int} : x ∈ posOf marks v ↔ ∃ i : Nat, x = (i : Int) ∧ i < marks.length ∧ co marks i = v := by
  unfold posOf
  rw [List.mem_map]
  constructor
  · rintro ⟨i, hi, rfl⟩
    obtain ⟨h1, h2⟩ := List.mem_filter.mp hi
    exact ⟨i, rfl, List.mem_range.mp h1, of_decide_eq_true h2⟩
  · rintro ⟨i, rfl, h1, h2⟩
    exact ⟨i, List.mem_filter.mpr ⟨List.mem_range.mpr h1, decide_eq_true h2⟩, rfl⟩
theorem mem_get {l : List Int} {v : Int} (h : v ∈ l) : ∃ i, i < l.length ∧ co l i = v := by
  obtain ⟨i, hi, e⟩ := List.mem_iff_getElem.mp h
  refine ⟨i, hi, ?_⟩
  have e1 := co_get hi
  rw [List.getElem?_eq_getElem hi] at e1
  rw [← Option.some.inj e1]
  exact e
theorem blocks_perm (marks : List Int) : (blocksOf marks).flatten.Perm (ixs marks.length) := by
  unfold blocksOf ixs
  have h := part_perm (f := co marks) (seenL [] marks) (List.range marks.length) (seenL_nodup marks [] List.nodup_nil) fun x hx => (seenL_mem marks [] _).mpr (.inr (co_mem (List.mem_range.mp hx)))
  have e : ((seenL [] marks).map (posOf marks)).flatten = (((seenL [] marks).map fun v => (List.range marks.length).filter fun i => decide (co marks i = v)).flatten).map fun (i : Nat) => (i : Int) := by
    rw [List.map_flatten, List.map_map]
    rfl
  rw [e]
  exact h.map _
theorem blocks_ne {marks : List Int} : ∀ b ∈ blocksOf marks, b ≠ [] := fun b hb => by
  obtain ⟨v, hv, rfl⟩ := List.mem_map.mp hb
  rcases (seenL_mem marks [] v).mp hv with z | z
  · exact nomatch z
  · obtain ⟨i, hi, e⟩ := mem_get z
    intro c
    have : (i : Int) ∈ posOf marks v := mem_posOf.mpr ⟨i, rfl, hi, e⟩
    rw [c] at this
    exact nomatch this
theorem range_lt (n : Nat) : (List.range n).Pairwise (· < ·) := List.pairwise_lt_range
theorem posOf_asc (marks : List Int) (v : Int) : (posOf marks v).Pairwise (· < ·) := by
  unfold posOf
  exact List.pairwise_map.mpr ((List.Pairwise.filter _ (range_lt _)).imp fun {a b} h => by omega)
theorem head_ix (p : Nat → Bool) {i : Nat} (h0 : ∀ j, j < i → p j = false) (h1 : p i = true) : ∀ N, (N ≤ i → (List.range N).filter p = []) ∧ (i < N → ((List.range N).filter p)[0]? = some i)
  | 0 => ⟨fun _ => rfl, fun h => absurd h (Nat.not_lt_zero _)⟩
  | N + 1 => by
    obtain ⟨a, b⟩ := head_ix p h0 h1 N
    rw [List.range_succ, List.filter_append]
    refine ⟨fun h => ?_, fun h => ?_⟩
    · rw [a (by omega), List.filter_cons, h0 N (by omega)]
      rfl
    · by_cases c : N = i
      · rw [a (by omega), List.filter_cons, c, h1]
        rfl
      · have h2 := b (by omega)
        rw [List.getElem?_append_left (List.getElem?_eq_some_iff.mp h2).1]
        exact h2
theorem posOf_head {marks : List Int} {i : Nat} (hi : i < marks.length) (h : co marks i ∉ marks.take i) : co (posOf marks (co marks i)) 0 = (i : Int) := by
  have h2 := (head_ix (fun j => decide (co marks j = co marks i)) (i := i) (fun j hj => decide_eq_false fun z => h ?_) (decide_eq_true rfl) marks.length).2 hi
  · unfold posOf co
    rw [List.getD_eq_getElem?_getD, List.getElem?_map]
    show ((((List.range marks.length).filter fun j => decide (co marks j = co marks i))[0]?).map fun (i : Nat) => (i : Int)).getD 0 = _
    rw [h2]
    rfl
  · rw [← z]
    have e : (marks.take i)[j]? = some (co marks j) := by rw [List.getElem?_take_of_lt hj, co_get (by omega)]
    exact List.mem_of_getElem? e
theorem take_snoc {l : List Int} {i : Nat} (h : i < l.length) : l.take (i + 1) = l.take i ++ [co l i] := by
  rw [List.take_succ, co_get h]
  rfl
theorem heads_run (marks : List Int) : ∀ i, i ≤ marks.length → ((seenL [] (marks.take i)).map fun v => co (posOf marks v) 0).Pairwise (· < ·) ∧ ∀ v ∈ seenL [] (marks.take i), co (posOf marks v) 0 < (i : Int)
  | 0, _ => ⟨.nil, fun v hv => nomatch hv⟩
  | i + 1, h => by
    obtain ⟨h1, h2⟩ := heads_run marks i (by omega)
    rw [take_snoc (by omega), seenL_snoc]
    by_cases c : co marks i ∈ seenL [] (marks.take i)
    · rw [if_pos c]
      exact ⟨h1, fun v hv => by have := h2 v hv; omega⟩
    · rw [if_neg c]
      have hd := posOf_head (marks := marks) (i := i) (by omega) fun z => c ((seenL_mem _ _ _).mpr (.inr z))
      refine ⟨?_, fun v hv => ?_⟩
      · rw [List.map_append]
        refine List.pairwise_append.mpr ⟨h1, List.pairwise_singleton _ _, fun a ha b hb => ?_⟩
        obtain ⟨v, hv, rfl⟩ := List.mem_map.mp ha
        obtain ⟨u, hu, rfl⟩ := List.mem_map.mp hb
        rw [List.mem_singleton.mp hu, hd]
        exact h2 v hv
      · rcases List.mem_append.mp hv with hv | hv
        · have := h2 v hv
          omega
        · rw [List.mem_singleton.mp hv, hd]
          omega
theorem blocks_heads (marks : List Int) : ((blocksOf marks).map fun b => co b 0).Pairwise (· < ·) := by
  have h := (heads_run marks marks.length (Nat.le_refl _)).1
  rw [List.take_length] at h
  unfold blocksOf
  rw [List.map_map]
  exact h
/-! labels -/
def labFrom : List (List Int) → Nat → List Int → List Int
  | [], _, ms => ms
  | b :: bs, k, ms => labFrom bs (k + 1) (b.foldl (fun ms p => ms.set p.toNat (k : Int)) ms)
def labL (bs : List (List Int)) (N : Nat) : List Int := labFrom bs 0 (List.replicate N 0)
theorem fold_len (k : Int) : ∀ (b ms : List Int), (b.foldl (fun ms p => ms.set p.toNat k) ms).length = ms.length
  | [], _ => rfl
  | p :: b, ms => by
    show (b.foldl _ (ms.set p.toNat k)).length = _
    rw [fold_len k b, List.length_set]
theorem fold_co (k : Int) {i : Nat} : ∀ (b ms : List Int), (∀ p ∈ b, 0 ≤ p ∧ p < ms.length) → co (b.foldl (fun ms p => ms.set p.toNat k) ms) i = if (i : Int) ∈ b then k else co ms i
  | [], _, _ => rfl
  | p :: b, ms, h => by
    show co (b.foldl _ (ms.set p.toNat k)) i = _
    obtain ⟨h1, h2⟩ := h p List.mem_cons_self
    rw [fold_co k b (ms.set p.toNat k) fun q hq => by rw [List.length_set]; exact h q (List.mem_cons_of_mem _ hq), co_set i (by omega)]
    by_cases c : (i : Int) ∈ b
    · rw [if_pos c, if_pos (List.mem_cons_of_mem _ c)]
    · rw [if_neg c]
      by_cases c2 : i = p.toNat
      · rw [if_pos c2, if_pos (List.mem_cons.mpr (.inl (by omega)))]
      · rw [if_neg c2, if_neg]
        intro z
        rcases List.mem_cons.mp z with z | z
        · omega
        · exact c z
theorem labFrom_len : ∀ (bs : List (List Int)) (k : Nat) (ms : List Int), (labFrom bs k ms).length = ms.length
  | [], _, _ => rfl
  | b :: bs, k, ms => by
    show (labFrom bs (k + 1) _).length = _
    rw [labFrom_len bs, fold_len]
theorem labL_len (bs : List (List Int)) (N : Nat) : (labL bs N).length = N := by
  unfold labL
  rw [labFrom_len, List.length_replicate]
theorem labFrom_co {marks : List Int} {i : Nat} (hi : i < marks.length) : ∀ (vs : List Int) (k : Nat) (ms : List Int), vs.Nodup → ms.length = marks.length → co (labFrom (vs.map (posOf marks)) k ms) i = if co marks i ∈ vs then ((k + vs.idxOf (co marks i) : Nat) : Int) else co ms i
  | [], _, _, _, _ => rfl
  | v :: vs, k, ms, nd, hl => by
    obtain ⟨nv, nd'⟩ := List.nodup_cons.mp nd
    show co (labFrom (vs.map (posOf marks)) (k + 1) _) i = _
    rw [labFrom_co hi vs (k + 1) _ nd' (by rw [fold_len, hl]), fold_co (k : Int) (posOf marks v) ms fun p hp => by
      obtain ⟨j, rfl, hj, _⟩ := mem_posOf.mp hp
      omega]
    have e : ((i : Int) ∈ posOf marks v) ↔ co marks i = v := by
      rw [mem_posOf]
      exact ⟨fun ⟨j, e, _, h⟩ => by rw [show i = j by omega]; exact h, fun h => ⟨i, rfl, hi, h⟩⟩
    by_cases c : co marks i = v
    · rw [if_neg (by rw [c]; exact nv), if_pos (e.mpr c), if_pos (List.mem_cons.mpr (.inl c)), c, List.idxOf_cons_self]
      rfl
    · rw [if_neg (fun z => c (e.mp z))]
      by_cases c2 : co marks i ∈ vs
      · rw [if_pos c2, if_pos (List.mem_cons_of_mem _ c2), List.idxOf_cons, cond_eq_ite, if_neg (by simpa using Ne.symm c)]
        congr 1
        omega
      · rw [if_neg c2, if_neg fun z => (List.mem_cons.mp z).elim c c2]
theorem labL_marks (marks : List Int) : labL (blocksOf marks) marks.length = marks.map fun v => (((seenL [] marks).idxOf v : Nat) : Int) := by
  refine List.ext_getElem? fun i => ?_
  have l1 := labL_len (blocksOf marks) marks.length
  rcases Nat.lt_or_ge i marks.length with c | c
  · rw [co_get (by omega), List.getElem?_map, co_get c]
    unfold labL blocksOf
    rw [labFrom_co c (seenL [] marks) 0 _ (seenL_nodup marks [] List.nodup_nil) List.length_replicate, if_pos ((seenL_mem marks [] _).mpr (.inr (co_mem c))), Nat.zero_add]
    rfl
  · rw [List.getElem?_eq_none (by omega), List.getElem?_eq_none (by rw [List.length_map]; exact c)]
theorem idx_inj {l : List Int} {x y : Int} (hx : x ∈ l) (hy : y ∈ l) (h : (((l.idxOf x : Nat) : Int)) = ((l.idxOf y : Nat) : Int)) : x = y := by
  have h' : l.idxOf x = l.idxOf y := by omega
  have e1 := List.getElem_idxOf (List.idxOf_lt_length_of_mem hx)
  have e2 := List.getElem_idxOf (List.idxOf_lt_length_of_mem hy)
  rw [← e1, ← e2]
  congr 1
theorem blocks_lab (marks : List Int) : blocksOf (labL (blocksOf marks) marks.length) = blocksOf marks := by
  rw [labL_marks]
  exact blocksOf_map fun x hx y hy h => idx_inj ((seenL_mem marks [] x).mpr (.inr hx)) ((seenL_mem marks [] y).mpr (.inr hy)) h

def siz (n m : Int) : Bool := decide (0 ≤ n ∧ n ≤ 8 ∧ 0 ≤ m ∧ m ≤ 8 ∧ n + m ≤ 12)
theorem cr_sortedITK {X : Cx} {K : PySem.W.Frag} (hK : X.K = K) : CallR X (.builtin "sorted") (rSortedIT K) := by
  subst hK
  exact cr_sortedIT
theorem outer_it {J : It} {n : Nat} {G : Hp → Prop} {Y : Nat → Hp → V → Hp → Prop} (w : Walk J n G Y) {B : V → Hp → (Hp → Prop) → Prop} {H0 : Hp} {Qd : Hp → Prop} (Pv : Nat → Hp → Prop) (h0 : Pv 0 H0) (hG : ∀ i H, i ≤ n → Pv i H → G H)
    (hs : ∀ i x H H', i < n → Pv i H → Y i H x H' → B x H' (Pv (i + 1))) (hd : ∀ H, Pv n H → Qd H) :
    ∃ W : Nat → Nat → Hp → Prop, (∃ m, W 0 m H0) ∧ ∀ i m H, W i m H → (J.stop i H ∧ Qd H) ∨ (J.go i H ∧ ∃ Nx : Hp → Prop, (∀ H', Nx H' → ∃ m', m' < m ∧ W (i + 1) m' H') ∧ ∀ x H', J.yld i H x H' → B x H' Nx) := by
  refine ⟨fun i m H => m = n - i ∧ i ≤ n ∧ Pv i H, ⟨n, by simp, Nat.zero_le _, h0⟩, ?_⟩
  rintro i m H ⟨rfl, hi, p⟩
  have q := hG i H hi p
  by_cases hlt : i < n
  · refine .inr ⟨w.goes i H hlt q, Pv (i + 1), fun H' p' => ⟨n - (i + 1), by omega, rfl, hlt, p'⟩, fun x H' y => hs i x H H' hlt p (w.yields i H x H' hlt q y)⟩
  · have e : i = n := by omega
    subst e
    exact .inl ⟨w.stops H q, hd H p⟩
/-- a tuple of tuples of integers; a diagram -/
def TT (H : Hp) (v : V) (bs : List (List Int)) : Prop := ∃ tb ts, v = .ref tb ∧ H tb = some (.tup ts) ∧ Paired (TP H) ts bs
def DGv (H : Hp) (v : V) (n m : Int) (bs : List (List Int)) : Prop := ∃ t vb, v = .ref t ∧ H t = some (.tup [.int n, .int m, vb]) ∧ TT H vb bs
theorem TT.same {H H' : Hp} {v : V} {bs : List (List Int)} (s : Same H H') (h : TT H v bs) : TT H' v bs := by
  obtain ⟨tb, ts, rfl, h, pr⟩ := h
  exact ⟨tb, ts, rfl, s _ _ h, Paired.mapP pr fun _ _ h => h.same s⟩
theorem DGv.same {H H' : Hp} {v : V} {n m : Int} {bs : List (List Int)} (s : Same H H') (h : DGv H v n m bs) : DGv H' v n m bs := by
  obtain ⟨t, vb, rfl, h, tt⟩ := h
  exact ⟨t, vb, rfl, s _ _ h, tt.same s⟩
def dTT (bs : List (List Int)) : PyData := .tuple (bs.map dT)
def dDG (n m : Int) (bs : List (List Int)) : PyData := .tuple [.int n, .int m, dTT bs]
theorem TT.dp {K : PySem.W.Frag} {H : Hp} {v : V} {bs : List (List Int)} (h : TT H v bs) : Dp K H v (dTT bs) := by
  obtain ⟨tb, ts, rfl, h, pr⟩ := h
  exact .tup (.inl (.inl h)) (tps_dp pr)
theorem DGv.dp {K : PySem.W.Frag} {H : Hp} {v : V} {n m : Int} {bs : List (List Int)} (h : DGv H v n m bs) : Dp K H v (dDG n m bs) := by
  obtain ⟨t, vb, rfl, h, tt⟩ := h
  exact .tup (.inl (.inl h)) (.cons (.int n) (.cons (.int m) (.cons tt.dp .nil)))
theorem lay_dTs : ∀ bs : List (List Int), PyData.canLayAll0 (bs.map dT) = true ∧ PyData.depthAll (bs.map dT) ≤ 1
  | [] => ⟨by simp [PyData.canLayAll0], by simp [PyData.depthAll]⟩
  | b :: bs => by
    obtain ⟨h1, h2⟩ := lay_dTs bs
    obtain ⟨h3, h4⟩ := lay_ints b
    have e1 : PyData.canLay0 (dT b) = true := by simp [dT, PyData.canLay0, h3]
    have e2 : PyData.depth (dT b) = 1 := by simp [dT, PyData.depth, h4]
    refine ⟨by simp [PyData.canLayAll0, e1, h1], ?_⟩
    simp only [List.map_cons, PyData.depthAll, e2]
    omega
theorem dTT_lay (bs : List (List Int)) : PyData.canLay0 (dTT bs) = true ∧ PyData.depth (dTT bs) ≤ 2 := by
  obtain ⟨h1, h2⟩ := lay_dTs bs
  exact ⟨by simp [dTT, PyData.canLay0, h1], by simp only [dTT, PyData.depth]; omega⟩
theorem dDG_lay (n m : Int) (bs : List (List Int)) : PyData.canLay0 (dDG n m bs) = true ∧ PyData.depth (dDG n m bs) ≤ 3 := by
  obtain ⟨h1, h2⟩ := dTT_lay bs
  exact ⟨by simp [dDG, PyData.canLay0, PyData.canLayAll0, h1], by simp only [dDG, PyData.depth, PyData.depthAll]; omega⟩
theorem dTT_shaped (bs : List (List Int)) : SeqAt.shaped (dTT bs) = true := by
  obtain ⟨h1, h2⟩ := dTT_lay bs
  show (PyData.canLay0 (dTT bs) && decide (PyData.depth (dTT bs) ≤ 64)) = true
  rw [h1, decide_eq_true (by omega)]
  rfl
theorem dDG_shaped (n m : Int) (bs : List (List Int)) : SeqAt.shaped (dDG n m bs) = true := by
  obtain ⟨h1, h2⟩ := dDG_lay n m bs
  show (PyData.canLay0 (dDG n m bs) && decide (PyData.depth (dDG n m bs) ≤ 64)) = true
  rw [h1, decide_eq_true (by omega)]
  rfl
/-- lists of integers -/
def dL (z : List Int) : PyData := .list (z.map PyData.int)
def LP (H : Hp) (v : V) (z : List Int) : Prop := ∃ t, v = .ref t ∧ H t = some (.lst (z.map V.int))
theorem LP.dp {K : PySem.W.Frag} {H : Hp} {v : V} {z : List Int} (h : LP H v z) : Dp K H v (dL z) := by
  obtain ⟨t, rfl, h⟩ := h
  exact .lst (.inl (.inl h)) (ints_dp z)
theorem LP.same {H H' : Hp} {v : V} {z : List Int} (s : Same H H') (h : LP H v z) : LP H' v z := by
  obtain ⟨t, rfl, h⟩ := h
  exact ⟨t, rfl, s _ _ h⟩
theorem dL_shaped (x : List Int) : SeqAt.shaped (dL x) = true := by
  obtain ⟨h1, h2⟩ := lay_ints x
  show (PyData.canLay0 (dL x) && decide (PyData.depth (dL x) ≤ 64)) = true
  unfold dL
  rw [show PyData.canLay0 (.list (x.map PyData.int)) = true by simp [PyData.canLay0, h1], show PyData.depth (.list (x.map PyData.int)) = 1 by simp [PyData.depth, h2]]
  rfl
theorem eqv_dL (x y : List Int) : PyData.eqv (dL x) (dL y) = decide (x = y) := by
  unfold dL
  simp only [PyData.eqv, eqvAll_ints]
theorem eqD_LP {K : PySem.W.Frag} {H : Hp} {u v : V} {x y : List Int} {Q : VK} (hx : LP H u x) (hy : LP H v y) (q : Q (.bl (decide (x = y))) H) : rEqD K u v H Q :=
  ⟨_, _, hx.dp, hy.dp, dL_shaped x, dL_shaped y, by rw [eqv_dL]; exact q⟩
theorem neD_LP {K : PySem.W.Frag} {H : Hp} {u v : V} {x y : List Int} {Q : VK} (hx : LP H u x) (hy : LP H v y) (q : Q (.bl (!decide (x = y))) H) : rNeD K u v H Q :=
  ⟨_, _, hx.dp, hy.dp, dL_shaped x, dL_shaped y, by rw [eqv_dL]; exact q⟩
theorem tt_get {H : Hp} {ts : List V} {bs : List (List Int)} (pr : Paired (TP H) ts bs) {i : Nat} {y : V} (h : ts[i]? = some y) : ∃ b, bs[i]? = some b ∧ TP H y b := by
  induction pr generalizing i with
  | nil => exact nomatch h
  | cons r t ih =>
    cases i with
    | zero =>
      obtain rfl := Option.some.inj h
      exact ⟨_, rfl, r⟩
    | succ i => exact ih h
theorem rgV_ixs {a : Int} (h : 0 ≤ a) : rgV 0 a = (ixs a.toNat).map V.int := by
  unfold rgV ixs
  rw [List.map_map, Int.sub_zero]
  refine List.map_congr_left fun i _ => ?_
  show V.int (0 + (i : Nat)) = V.int (i : Int)
  rw [Int.zero_add]
theorem ixs_len (N : Nat) : (ixs N).length = N := by
  unfold ixs
  rw [List.length_map, List.length_range]
theorem ixs_asc (N : Nat) : (ixs N).Pairwise (· ≤ ·) := by
  unfold ixs
  exact List.pairwise_map.mpr ((range_lt N).imp fun {a b} h => by omega)
theorem sorted_same {a b : List Int} (hp : a.Perm b) (ha : a.Pairwise (· ≤ ·)) (hb : b.Pairwise (· ≤ ·)) : a = b := hp.eq_of_pairwise (fun x y _ _ h1 h2 => Int.le_antisymm h1 h2) ha hb
structure IsDg (n m : Int) (bs : List (List Int)) : Prop where
  sz : siz n m = true
  ne : ∀ b ∈ bs, b ≠ []
  pm : bs.flatten.Perm (ixs (n + m).toNat)
  asc : ∀ b ∈ bs, b.Pairwise (· ≤ ·)
  hd : (bs.map fun b => co b 0).Pairwise (· ≤ ·)
theorem siz_iff {n m : Int} : siz n m = true ↔ (0 ≤ n ∧ n ≤ 8 ∧ 0 ≤ m ∧ m ≤ 8 ∧ n + m ≤ 12) := by
  unfold siz
  exact decide_eq_true_iff
theorem isDg_blocks {n m : Int} {marks : List Int} (h : siz n m = true) (hl : (marks.length : Int) = n + m) : IsDg n m (blocksOf marks) := by
  have hs := siz_iff.mp h
  refine ⟨h, blocks_ne, ?_, fun b hb => ?_, (blocks_heads marks).imp fun {a b} h => by omega⟩
  · have := blocks_perm marks
    rwa [show marks.length = (n + m).toNat by omega] at this
  · obtain ⟨v, _, rfl⟩ := List.mem_map.mp hb
    exact (posOf_asc marks v).imp fun {a b} h => by omega

section
variable {P : Program} {w : World} {K : PySem.W.Frag} {mg : Str → Option Value} {base : Heap}
/-! ### _is_size, _check_size -/
def spIsSize : Sp := fun vs H Q _ => ∃ n m : Int, vs = [.int n, .int m] ∧ Q (.bl (siz n m)) H
theorem ok_is_size_ {f : Addr} {fd : FuncData} {t8 t12 : Tok} (F : Fun K "_is_size" "_is_size" s_is_size_ f fd) (m_MOST_ON_A_SIDE : mg "MOST_ON_A_SIDE" = some (.int 8 t8)) (m_MOST_POINTS : mg "MOST_POINTS" = some (.int 12 t12)) : FnOk P w K mg base CX0 1 f fd ["n", "m"] spIsSize := by
  have r_MOST_ON_A_SIDE : RelV (.int 8) (.int 8 t8) := ⟨_, rfl⟩
  have r_MOST_POINTS : RelV (.int 12) (.int 12 t12) := ⟨_, rfl⟩
  refine F.ok sc_is_size_ (fun vs H Q E h => ?_) (fun cdv A outer s H vs Q E hr h => ?_)
  · obtain ⟨n, m, rfl, _⟩ := h
    rfl
  · obtain ⟨n, m, rfl, q⟩ := h
    refine ⟨_, (pss_one (ps_ret (pe_and (pe_chain op_le op_le pe_int (pv 0) (pe_glob rfl m_MOST_ON_A_SIDE r_MOST_ON_A_SIDE)) (pe_and (pe_chain op_le op_le pe_int (pv 1) (pe_glob rfl m_MOST_ON_A_SIDE r_MOST_ON_A_SIDE)) (pe_one (pe_cmpR op_le (pe_op op_add (pv 0) (pv 1)) (pe_glob rfl m_MOST_POINTS r_MOST_POINTS) (nomark _))))))), ?_⟩
    unfold siz at q
    refine ⟨_, rfl, _, _, rfl, rfl, _, rfl, ?_⟩
    by_cases c0 : 0 ≤ n
    · rw [decide_eq_true c0]
      refine iteT ⟨_, _, rfl, rfl, _, rfl, ?_⟩
      by_cases c1 : n ≤ 8
      · rw [decide_eq_true c1]
        refine iteT ⟨_, rfl, _, _, rfl, rfl, _, rfl, ?_⟩
        by_cases c2 : 0 ≤ m
        · rw [decide_eq_true c2]
          refine iteT ⟨_, _, rfl, rfl, _, rfl, ?_⟩
          by_cases c3 : m ≤ 8
          · rw [decide_eq_true c3]
            refine iteT ⟨_, rfl, _, rfl, _, _, rfl, rfl, _, _, rfl, rfl, ?_⟩
            rwa [show decide (0 ≤ n ∧ n ≤ 8 ∧ 0 ≤ m ∧ m ≤ 8 ∧ n + m ≤ 12) = decide (n + m ≤ 12) from decide_eq_decide.mpr ⟨fun z => z.2.2.2.2, fun z => ⟨c0, c1, c2, c3, z⟩⟩] at q
          · rw [decide_eq_false c3]
            rw [decide_eq_false fun z => c3 z.2.2.2.1] at q
            exact iteF q
        · rw [decide_eq_false c2]
          rw [decide_eq_false fun z => c2 z.2.2.1] at q
          exact iteF ⟨_, rfl, iteF q⟩
      · rw [decide_eq_false c1]
        rw [decide_eq_false fun z => c1 z.2.1] at q
        exact iteF q
    · rw [decide_eq_false c0]
      rw [decide_eq_false fun z => c0 z.1] at q
      exact iteF ⟨_, rfl, iteF q⟩
def spCheckSize (CB : Addr) : Sp := fun vs H Q E => ∃ n m : Int, vs = [.int n, .int m] ∧ (siz n m = true → Q .non H) ∧ (siz n m = false → E (.ref CB) none H)
theorem ok_check_size_ {f CB a_is_size_ : Addr} {fd fd_is_size_ : FuncData} (F : Fun K "_check_size" "_check_size" s_check_size_ f fd) (T : ErrC K mg "BadNumber" CB)
    (G_is_size_ : FnOk P w K mg base CX0 1 a_is_size_ fd_is_size_ ["n", "m"] spIsSize) (g_is_size_ : mg "_is_size" = some (.ref a_is_size_)) (k_is_size_ : PySem.W.keepIn K (.ref a_is_size_) = true) (b_is_size_ : Binds K fd_is_size_ ["n", "m"] []) :
    FnOk P w K mg base (L2N.CX P w) 2 f fd ["n", "m"] (spCheckSize CB) := by
  obtain ⟨gc_BadNumber, x_BadNumber, kc_BadNumber, bc_BadNumber, tc_BadNumber⟩ := T
  refine F.okXN sc_check_size_ (fun vs H Q E h => ?_) (fun cdv A outer s H vs Q E hr h => ?_)
  · obtain ⟨n, m, rfl, _⟩ := h
    rfl
  · obtain ⟨n, m, rfl, q1, q2⟩ := h
    refine ⟨_, (pss_one (ps_if (pt_not (pt_val (pe_call G_is_size_ (hr.mono (by decide)) rfl g_is_size_ k_is_size_ b_is_size_ .nil pass0 (pa_cons (pv 0) (pa_cons (pv 1) pa_nil))))) (pss_one (L2N.ps_raise rfl (L2N.takes_of rfl rfl rfl rfl) (L2N.pmk_own PySem.F.excBase_ValueError x_BadNumber gc_BadNumber kc_BadNumber (raises_own bc_BadNumber tc_BadNumber) rfl))) pss_nil)), ?_⟩
    refine ⟨_, rfl, _, rfl, n, m, rfl, _, rfl, ?_⟩
    cases e : siz n m with
    | true => exact iteF (q1 e)
    | false => exact iteT (q2 e)
end

theorem any_nil (bs : List (List Int)) : ((bs.map dT).any fun z => PyData.eqv z (dT [])) = bs.any fun b => decide (b = []) := by
  rw [List.any_map]
  congr 1
  funext b
  exact eqv_dT b []
theorem flat_take {bs : List (List Int)} {i : Nat} {b : List Int} (h : bs[i]? = some b) : (bs.take (i + 1)).flatten = (bs.take i).flatten ++ b := by
  rw [List.take_succ, h, List.flatten_append]
  show _ ++ (b ++ []) = _
  rw [List.append_nil]
theorem mem_len {bs : List (List Int)} {b : List Int} (h : b ∈ bs) : b.length ≤ bs.flatten.length := by
  induction bs with
  | nil => exact nomatch h
  | cons c bs ih =>
    rw [List.flatten_cons, List.length_append]
    rcases List.mem_cons.mp h with rfl | h
    · omega
    · have := ih h
      omega
section
variable {P : Program} {w : World} {K : PySem.W.Frag} {mg : Str → Option Value} {base : Heap}
/-! ### is_diagram -/
def DgOk (n m : Int) (bs : List (List Int)) : Prop := n.natAbs ≤ 1000 ∧ m.natAbs ≤ 1000 ∧ bs.length ≤ 1000 ∧ bs.flatten.length ≤ 10000
def spIsDiagram : Sp := fun vs H Q _ => ∃ (v : V) (n m : Int) (bs : List (List Int)), vs = [v] ∧ DGv H v n m bs ∧ DgOk n m bs ∧ ∀ H', Same H H' → (IsDg n m bs → Q (.bl true) H') ∧ (¬ IsDg n m bs → Q (.bl false) H')
theorem ok_is_diagram {f a_is_size_ : Addr} {fd fd_is_size_ : FuncData} (F : Fun K "is_diagram" "is_diagram" s_is_diagram f fd) (z_len : mg "len" = none) (z_list : mg "list" = none) (z_range : mg "range" = none) (z_sorted : mg "sorted" = none) (z_all : mg "all" = none)
    (G_is_size_ : FnOk P w K mg base CX0 1 a_is_size_ fd_is_size_ ["n", "m"] spIsSize) (g_is_size_ : mg "_is_size" = some (.ref a_is_size_)) (k_is_size_ : PySem.W.keepIn K (.ref a_is_size_) = true) (b_is_size_ : Binds K fd_is_size_ ["n", "m"] []) : FnOk P w K mg base CX0 2 f fd ["diagram"] spIsDiagram := by
  refine F.ok sc_is_diagram (fun vs H Q E h => ?_) (fun cdv A outer s H vs Q E hr h => ?_)
  · obtain ⟨v, n, m, bs, rfl, _⟩ := h
    rfl
  · obtain ⟨v, n, m, bs, rfl, hv, ⟨bn, bm, bl, bf⟩, q⟩ := h
    refine ⟨_, (pss_cons (ps_if (pt_cmpR op_ne (pe_callB call_len_seq (by rfl) z_len boot_len (pa_cons (pv 0) pa_nil)) pe_int (nomark _)) (pss_one (ps_ret pe_bl)) pss_nil)
  (pss_cons (ps_asg (pv 0) (pg_tup rfl (pgs_cons (pg_name (i := 1) sc_is_diagram.nd rfl (.inl rfl)) (pgs_cons (pg_name (i := 2) sc_is_diagram.nd rfl (.inl rfl)) (pgs_cons (pg_name (i := 3) sc_is_diagram.nd rfl (.inl rfl)) pgs_nil)))))
  (pss_cons (ps_if (L2.PW.pt (pw_or (pt_not (pt_val (pe_call G_is_size_ (hr.mono (by decide)) rfl g_is_size_ k_is_size_ b_is_size_ .nil pass0 (pa_cons (pv 1) (pa_cons (pv 2) pa_nil))))) (pw_or1 (pt_cmpR (op_inDT (room65 hr)) (pe_tup pa_nil) (pv 3) (by with_unfolding_all rfl))))) (pss_one (ps_ret pe_bl)) pss_nil)
  (pss_cons (ps_setLc2 (i := 4) (own := [("block", 6), ("point", 7)]) (vs1 := [7]) rfl sc_is_diagram.nd rfl rfl (sw_true rfl rfl rfl (by decide +kernel)) (pi_tup (pv 3)) (blkOk_by (N := ["diagram", "n", "m", "blocks", "points", "firsts", "block", "point"]) (sc := defScope s_is_diagram) (by decide +kernel)) (by decide) (fun _ _ _ _ _ => (pg_name (i := 6) sc_is_diagram.nd rfl (.inl rfl))) (fun _ _ _ _ _ => pts_nil) (fun _ _ _ _ _ => ((pi_tupK (K := K) rfl) (pv 6))) (fun _ _ _ _ _ => (pg_name (i := 7) sc_is_diagram.nd rfl (.inl rfl))) (fun _ _ _ _ _ => pts_nil) (fun _ _ _ _ _ => (pv 7)))
  (pss_cons (ps_if (pt_cmpR (op_neD (room64 hr)) (pe_callB cr_sortedI (by rfl) z_sorted boot_sorted (pa_cons (pv 4) pa_nil)) (pe_listRg rfl rfl z_list (prg_1 rfl z_range (pe_op op_add (pv 1) (pv 2)))) (nomark _)) (pss_one (ps_ret pe_bl)) pss_nil)
  (pss_cons (ps_if (pt_not (pt_val (pe_callB (cr_all rfl) (by rfl) z_all boot_all (pa_cons (pe_lc (own := [("block", 6)]) rfl sc_is_diagram.nd (pi_tup (pv 3)) (blkOk_by (N := ["diagram", "n", "m", "blocks", "points", "firsts", "block", "point"]) (sc := defScope s_is_diagram) (by first | decide +kernel | rfl)) (fun _ _ _ _ _ => (pg_name (i := 6) sc_is_diagram.nd rfl (.inl rfl))) (fun _ _ _ _ _ => pts_nil) (fun _ _ _ _ _ => (pe_cmpR (op_eqDK (K := K) rfl (room64 hr)) (pe_callTy (call_list_ofK (K := K) rfl) (by rfl) z_list boot_list (pa_cons (pv 6) pa_nil)) (pe_callB (cr_sortedITK (K := K) rfl) (by rfl) z_sorted boot_sorted (pa_cons (pv 6) pa_nil)) (nomark _)))) pa_nil)))) (pss_one (ps_ret pe_bl)) pss_nil)
  (pss_cons (ps_setLc (i := 5) (own := [("block", 6)]) rfl sc_is_diagram.nd rfl rfl (sw_true rfl rfl rfl (by decide +kernel)) (pi_tup (pv 3)) (blkOk_by (N := ["diagram", "n", "m", "blocks", "points", "firsts", "block", "point"]) (sc := defScope s_is_diagram) (by first | decide +kernel | rfl)) (fun _ _ _ _ _ => (pg_name (i := 6) sc_is_diagram.nd rfl (.inl rfl))) (fun _ _ _ _ _ => pts_nil) (fun _ _ _ _ _ => (pe_ix (ix_tupK (K := K) rfl) (pv 6) pe_int (fun _ _ => rfl))))
  (pss_one (ps_ret (pe_cmpR (op_eqD (room64 hr)) (pv 5) (pe_callB cr_sortedI (by rfl) z_sorted boot_sorted (pa_cons (pv 5) pa_nil)) (nomark _))))))))))), ?_⟩
    have szl : 20000 ≤ sizeLine := by decide
    obtain ⟨t, vb, rfl, ht, tb, ts, rfl, htb, pr⟩ := hv
    have lts : ts.length = bs.length := pr.length
    refine ⟨_, rfl, t, _, rfl, .inr (.inl (.inl ht)), rfl, _, rfl, ite_same ?_⟩
    refine ⟨_, rfl, t, _, rfl, .inl (.inl ht), rfl, _, _, rfl, _, _, rfl, _, _, rfl, rfl, ?_⟩
    refine ⟨_, rfl, _, rfl, n, m, rfl, _, rfl, ?_⟩
    by_cases cs : siz n m = true
    · rw [cs]
      refine iteF ?_
      have hs := siz_iff.mp cs
      refine ⟨(by show 0 ≤ sizeLine; decide), fun e0 ne0 => ?_⟩
      have s0 : Same H (upd H e0 (.tup [])) := same_upd ne0
      have tt : TT (upd H e0 (.tup [])) (.ref tb) bs := TT.same s0 ⟨tb, ts, rfl, htb, pr⟩
      refine ⟨_, rfl, dT [], bs.map dT, .tup (.inl (.inl upd_same)) .nil, tt.dp, dT_shaped [], dTT_shaped bs, _, rfl, ?_⟩
      rw [any_nil]
      have htb1 : upd H e0 (.tup []) tb = some (.tup ts) := s0 _ _ htb
      have pr1 : Paired (TP (upd H e0 (.tup []))) ts bs := Paired.mapP pr fun _ _ h => h.same s0
      revert s0 htb1 pr1
      generalize upd H e0 (.tup []) = H1
      intro s0 htb1 pr1
      clear tt htb pr
      by_cases cn : (bs.any fun b => decide (b = [])) = true
      · rw [cn]
        refine iteT ((q H1 s0).2 fun z => ?_)
        obtain ⟨b, hb, e⟩ := List.any_eq_true.mp cn
        exact z.ne b hb (of_decide_eq_true e)
      rw [Bool.not_eq_true _ |>.mp cn]
      refine iteF ?_
      have ne : ∀ b ∈ bs, b ≠ [] := fun b hb z => cn (List.any_eq_true.mpr ⟨b, hb, decide_eq_true z⟩)
      -- points
      refine ⟨_, rfl, tb, rfl, ⟨_, .inl (.inl htb1)⟩, fun D nD => ?_⟩
      have keepD : ∀ {H' : Hp} {a : Addr} {o : HO}, SameBut D H1 H' → H1 a = some o → H' a = some o := fun sb e => sb _ _ (ne_of_none e nD) e
      refine outer_it walk_tup (fun i H' => SameBut D H1 H' ∧ H' D = some (.lst ((bs.take i).flatten.map V.int))) ⟨SameBut.upd, upd_same⟩ (fun i H' _ hP => .inl (.inl (keepD hP.1 htb1))) (fun i y H2 H3 hi hP hy => ?_) (fun H2 hP => ?_)
      · obtain ⟨sb, hD⟩ := hP
        obtain ⟨e0, hy⟩ := hy
        subst e0
        obtain ⟨b, eb, a, rfl, ha⟩ := tt_get pr1 hy
        have mb := List.mem_of_getElem? eb
        have lb := mem_len mb
        refine ⟨rfl, ?_⟩
        refine ⟨_, rfl, a, rfl, ⟨_, .inl (.inl (keepD sb ha))⟩, outer_it walk_tup (fun j H' => SameBut D H1 H' ∧ H' D = some (.lst (((bs.take i).flatten ++ b.take j).map V.int))) ⟨sb, by rw [List.take_zero, List.append_nil]; exact hD⟩ (fun j H' _ hP => .inl (.inl (keepD hP.1 ha))) (fun j z H4 H5 hj hP hz => ?_) (fun H4 hP => ?_)⟩
        · obtain ⟨sb, hD⟩ := hP
          obtain ⟨e0, hz⟩ := hz
          subst e0
          rw [List.length_map] at hj
          have ez : (b.map V.int)[j]? = some (.int (co b j)) := by rw [List.getElem?_map, co_get hj]; rfl
          obtain rfl : V.int (co b j) = z := Option.some.inj (ez.symm.trans hz)
          refine ⟨rfl, ?_⟩
          refine ⟨_, rfl, _, hD, ?_, sb.trans SameBut.upd, ?_⟩
          · rw [List.length_map, List.length_append, List.length_take]
            have : (bs.take i).flatten.length ≤ bs.flatten.length := by
              have e : (bs.take i ++ bs.drop i).flatten.length = bs.flatten.length := congrArg (fun l : List (List Int) => l.flatten.length) (List.take_append_drop i bs)
              rw [List.flatten_append, List.length_append] at e
              omega
            omega
          · rw [upd_same, take_snoc hj, ← List.append_assoc, List.map_append (l₂ := [co b j])]
            rfl
        · obtain ⟨sb, hD⟩ := hP
          rw [List.length_map, List.take_length] at hD
          exact ⟨sb, by rw [flat_take eb]; exact hD⟩
      obtain ⟨sb2, hD⟩ := hP
      rw [lts, List.take_length] at hD
      have s2 : Same H1 H2 := fun b o e => keepD sb2 e
      -- sorted
      refine ⟨_, rfl, D, bs.flatten, rfl, .inl (.inl hD), fun ns' p1 pm1 srt1 np1 => ?_⟩
      refine ⟨_, rfl, _, rfl, _, _, rfl, rfl, n + m, rfl, RgOk.of_le (by decide) (by omega) (by decide) (by omega), fun p2 np2 => ?_⟩
      rw [rgV_ixs (by omega)]
      have s3 : Same H2 (upd (upd H2 p1 (.lst (ns'.map V.int))) p2 (.lst ((ixs (n + m).toNat).map V.int))) := Same.trans (same_upd np1) (same_upd np2)
      refine neD_LP (x := ns') (y := ixs (n + m).toNat) ⟨p1, rfl, same_upd np2 _ _ upd_same⟩ ⟨p2, rfl, upd_same⟩ ⟨_, rfl, ?_⟩
      have s13 := Same.trans s0 (Same.trans s2 s3)
      have htb4 := s3 _ _ (s2 _ _ htb1)
      have pr4 := Paired.mapP pr1 fun _ _ h => (TP.same s2 h).same s3
      revert s13 htb4 pr4
      generalize upd (upd H2 p1 (.lst (ns'.map V.int))) p2 (.lst ((ixs (n + m).toNat).map V.int)) = H4
      intro s13 htb4 pr4
      clear s3 s2 hD sb2 keepD nD np1 np2
      by_cases cp : ns' = ixs (n + m).toNat
      · rw [decide_eq_true cp]
        refine iteF ?_
        have pm : bs.flatten.Perm (ixs (n + m).toNat) := cp ▸ pm1.symm
        -- blocks
        refine ⟨_, rfl, tb, rfl, ⟨_, .inl (.inl htb4)⟩, fun D5 nD5 => ?_⟩
        have keep5 : ∀ {H' : Hp} {a : Addr} {o : HO}, SameBut D5 H4 H' → H4 a = some o → H' a = some o := fun sb e => sb _ _ (ne_of_none e nD5) e
        refine lc_it walk_tup (fun i H' => SameBut D5 H4 H' ∧ H' D5 = some (.lst (((bs.take i).map fun b => decide (b.Pairwise (· ≤ ·))).map V.bl))) ⟨SameBut.upd, upd_same⟩ (fun i H' _ hP => .inl (.inl (keep5 hP.1 htb4))) (fun i y H5 H6 hi hP hy => ?_) (fun H5 hP => ?_)
        · obtain ⟨sb, hD⟩ := hP
          obtain ⟨e0, hy⟩ := hy
          subst e0
          obtain ⟨b, eb, a, rfl, ha⟩ := tt_get pr4 hy
          refine ⟨rfl, ?_⟩
          have ha5 := keep5 sb ha
          refine ⟨_, rfl, a, _, rfl, .inr (.inl (.inl ha5)), fun l1 nl1 => ?_⟩
          refine ⟨_, rfl, a, b, rfl, .inl (.inl (same_upd nl1 _ _ ha5)), fun ns p pm srt np => ?_⟩
          refine eqD_LP (x := b) (y := ns) ⟨l1, rfl, same_upd np _ _ upd_same⟩ ⟨p, rfl, upd_same⟩ ?_
          have sN := Same.trans (same_upd (o := .lst (b.map V.int)) nl1) (same_upd (o := .lst (ns.map V.int)) np)
          have e : decide (b = ns) = decide (b.Pairwise (· ≤ ·)) := decide_eq_decide.mpr ⟨fun z => by rw [z]; exact srt, fun z => sorted_same pm.symm z srt⟩
          refine ⟨_, sN _ _ hD, by rw [List.length_map, List.length_map, List.length_take]; omega, (sb.trans (Same.but sN)).trans SameBut.upd, ?_⟩
          rw [upd_same, List.take_succ, eb, e, List.map_append, List.map_append]
          rfl
        obtain ⟨sb5, hD5⟩ := hP
        rw [lts, List.take_length] at hD5
        have s5 : Same H4 H5 := fun b o e => keep5 sb5 e
        refine ⟨D5, _, rfl, .inl (.inl hD5), _, rfl, ?_⟩
        have htb5 := s5 _ _ htb4
        have pr5 := Paired.mapP pr4 fun _ _ h => TP.same s5 h
        have s15 := Same.trans s13 s5
        by_cases ca : ((bs.map fun b => decide (b.Pairwise (· ≤ ·))).all id) = true
        · rw [ca]
          refine iteF ?_
          have asc : ∀ b ∈ bs, b.Pairwise (· ≤ ·) := fun b hb => of_decide_eq_true (List.all_eq_true.mp ca _ (List.mem_map_of_mem hb))
          -- firsts
          refine ⟨_, rfl, tb, rfl, ⟨_, .inl (.inl htb5)⟩, fun D6 nD6 => ?_⟩
          have keep6 : ∀ {H' : Hp} {a : Addr} {o : HO}, SameBut D6 H5 H' → H5 a = some o → H' a = some o := fun sb e => sb _ _ (ne_of_none e nD6) e
          refine lc_it walk_tup (fun i H' => SameBut D6 H5 H' ∧ H' D6 = some (.lst (((bs.take i).map fun b => co b 0).map V.int))) ⟨SameBut.upd, upd_same⟩ (fun i H' _ hP => .inl (.inl (keep6 hP.1 htb5))) (fun i y H6 H7 hi hP hy => ?_) (fun H6 hP => ?_)
          · obtain ⟨sb, hD⟩ := hP
            obtain ⟨e0, hy⟩ := hy
            subst e0
            obtain ⟨b, eb, a, rfl, ha⟩ := tt_get pr5 hy
            have nb := List.length_pos_iff.mpr (ne b (List.mem_of_getElem? eb))
            refine ⟨rfl, ?_⟩
            refine ⟨_, rfl, a, _, 0, _, rfl, rfl, .inl (.inl (keep6 sb ha)), at_co nb, _, hD, by rw [List.length_map, List.length_map, List.length_take]; omega, sb.trans SameBut.upd, ?_⟩
            rw [upd_same, List.take_succ, eb, List.map_append, List.map_append]
            rfl
          obtain ⟨sb6, hD6⟩ := hP
          rw [lts, List.take_length] at hD6
          have s6 : Same H5 H6 := fun b o e => keep6 sb6 e
          refine ⟨_, rfl, _, rfl, D6, _, rfl, .inl (.inl hD6), fun ns p pm6 srt np => ?_⟩
          refine eqD_LP (x := bs.map fun b => co b 0) (y := ns) ⟨D6, rfl, same_upd np _ _ hD6⟩ ⟨p, rfl, upd_same⟩ ?_
          obtain ⟨qt, qf⟩ := q _ (Same.trans s15 (Same.trans s6 (same_upd np)))
          by_cases ch : (bs.map fun b => co b 0) = ns
          · rw [decide_eq_true ch]
            exact qt ⟨cs, ne, pm, asc, ch ▸ srt⟩
          · rw [decide_eq_false ch]
            exact qf fun z => ch (sorted_same pm6.symm z.hd srt)
        · rw [Bool.not_eq_true _ |>.mp ca]
          refine iteT ((q H5 s15).2 fun z => ca (List.all_eq_true.mpr fun c hc => ?_))
          obtain ⟨b, hb, rfl⟩ := List.mem_map.mp hc
          exact decide_eq_true (z.asc b hb)
      · rw [decide_eq_false cp]
        exact iteT ((q H4 s13).2 fun z => cp (sorted_same (pm1.trans z.pm) srt1 (ixs_asc _)))
    · rw [Bool.not_eq_true _ |>.mp cs]
      exact iteT ((q H (Same.refl _)).2 fun z => cs z.sz)
end

section
variable {P : Program} {w : World} {K : PySem.W.Frag} {mg : Str → Option Value} {base : Heap}
/-! ### check_diagram, labels -/
def spCheckDiagram (CD : Addr) : Sp := fun vs H Q E => ∃ (v : V) (n m : Int) (bs : List (List Int)), vs = [v] ∧ DGv H v n m bs ∧ DgOk n m bs ∧ ∀ H', Same H H' → (IsDg n m bs → Q .non H') ∧ (¬ IsDg n m bs → E (.ref CD) none H')
theorem ok_check_diagram {f CD a_is_diagram : Addr} {fd fd_is_diagram : FuncData} (F : Fun K "check_diagram" "check_diagram" s_check_diagram f fd) (T : ErrC K mg "NotDiagram" CD)
    (G_is_diagram : FnOk P w K mg base CX0 2 a_is_diagram fd_is_diagram ["diagram"] spIsDiagram) (g_is_diagram : mg "is_diagram" = some (.ref a_is_diagram)) (k_is_diagram : PySem.W.keepIn K (.ref a_is_diagram) = true) (b_is_diagram : Binds K fd_is_diagram ["diagram"] []) :
    FnOk P w K mg base (L2N.CX P w) 3 f fd ["diagram"] (spCheckDiagram CD) := by
  obtain ⟨gc_NotDiagram, x_NotDiagram, kc_NotDiagram, bc_NotDiagram, tc_NotDiagram⟩ := T
  refine F.okXN sc_check_diagram (fun vs H Q E h => ?_) (fun cdv A outer s H vs Q E hr h => ?_)
  · obtain ⟨v, n, m, bs, rfl, _⟩ := h
    rfl
  · obtain ⟨v, n, m, bs, rfl, hv, hb, q⟩ := h
    refine ⟨_, (pss_one (ps_if (pt_not (pt_val (pe_call G_is_diagram (hr.mono (by decide)) rfl g_is_diagram k_is_diagram b_is_diagram .nil pass0 (pa_cons (pv 0) pa_nil)))) (pss_one (L2N.ps_raise rfl (L2N.takes_of rfl rfl rfl rfl) (L2N.pmk_own PySem.F.excBase_ValueError x_NotDiagram gc_NotDiagram kc_NotDiagram (raises_own bc_NotDiagram tc_NotDiagram) rfl))) pss_nil)), ?_⟩
    exact ⟨_, rfl, v, n, m, bs, rfl, hv, hb, fun H' s' => ⟨fun h => ⟨_, rfl, iteF ((q H' s').1 h)⟩, fun h => ⟨_, rfl, iteT ((q H' s').2 h)⟩⟩⟩
end
def labN (bs : List (List Int)) (i : Nat) (N : Nat) : List Int := labFrom (bs.take i) 0 (List.replicate N 0)
theorem labFrom_snoc : ∀ (bs : List (List Int)) (b : List Int) (k : Nat) (ms : List Int), labFrom (bs ++ [b]) k ms = b.foldl (fun ms p => ms.set p.toNat ((k + bs.length : Nat) : Int)) (labFrom bs k ms)
  | [], b, k, ms => rfl
  | c :: bs, b, k, ms => by
    show labFrom (bs ++ [b]) (k + 1) _ = _
    rw [labFrom_snoc bs b (k + 1), show k + 1 + bs.length = k + (c :: bs).length by rw [List.length_cons]; omega]
    rfl
theorem fold_take {k : Int} {b ms : List Int} {j : Nat} (h : j < b.length) : (b.take (j + 1)).foldl (fun ms p => ms.set p.toNat k) ms = ((b.take j).foldl (fun ms p => ms.set p.toNat k) ms).set (co b j).toNat k := by
  rw [take_snoc h, List.foldl_append]
  rfl
theorem dg_pt {n m : Int} {bs : List (List Int)} (h : IsDg n m bs) {b : List Int} (hb : b ∈ bs) {p : Int} (hp : p ∈ b) : 0 ≤ p ∧ p < n + m := by
  have h1 := h.pm.mem_iff.mp (List.mem_flatten.mpr ⟨b, hb, hp⟩)
  obtain ⟨i, hi, rfl⟩ := List.mem_map.mp h1
  have := List.mem_range.mp hi
  omega

theorem posOf_take {marks : List Int} {i : Nat} (h : i < marks.length) (v : Int) : posOf (marks.take (i + 1)) v = if co marks i = v then posOf (marks.take i) v ++ [(i : Int)] else posOf (marks.take i) v := by
  have l1 : (marks.take (i + 1)).length = i + 1 := by rw [List.length_take]; omega
  have l0 : (marks.take i).length = i := by rw [List.length_take]; omega
  have c1 : ∀ j, j < i → co (marks.take (i + 1)) j = co (marks.take i) j := fun j hj => by
    unfold co
    rw [List.getD_eq_getElem?_getD, List.getD_eq_getElem?_getD, List.getElem?_take_of_lt (by omega), List.getElem?_take_of_lt hj]
  have c2 : co (marks.take (i + 1)) i = co marks i := by
    unfold co
    rw [List.getD_eq_getElem?_getD, List.getD_eq_getElem?_getD, List.getElem?_take_of_lt (by omega)]
  unfold posOf
  rw [l1, l0, List.range_succ, List.filter_append, List.map_append]
  have e : (List.range i).filter (fun j => decide (co (marks.take (i + 1)) j = v)) = (List.range i).filter fun j => decide (co (marks.take i) j = v) :=
    List.filter_congr fun j hj => by rw [c1 j (List.mem_range.mp hj)]
  rw [e, List.filter_cons, c2]
  by_cases c : co marks i = v
  · rw [if_pos c, decide_eq_true c]
    rfl
  · rw [if_neg c, decide_eq_false c]
    exact List.append_nil _
theorem posOf_none {marks : List Int} {v : Int} (h : v ∉ marks) : posOf marks v = [] := by
  refine List.eq_nil_iff_forall_not_mem.mpr fun x hx => ?_
  obtain ⟨i, _, hi, e⟩ := mem_posOf.mp hx
  exact h (e ▸ co_mem hi)
/-- a dict by integers -/
def KR (H : Hp) (f : Int → List Int) (kv : Key × V) (u : Int) : Prop := kv.1 = Sum.inl u ∧ TP H kv.2 (f u)
theorem kr_get {H : Hp} {f : Int → List Int} {v : Int} : ∀ {kvs : List (Key × V)} {vs : List Int}, Paired (KR H f) kvs vs → (v ∈ vs → ∃ w, valV kvs (Sum.inl v : Key) = some w ∧ TP H w (f v)) ∧ (v ∉ vs → valV kvs (Sum.inl v : Key) = none)
  | _, _, .nil => ⟨fun h => (nomatch h), fun _ => rfl⟩
  | kv :: kvs, u :: vs, .cons ⟨e, t⟩ pr => by
    obtain ⟨a, b⟩ := kr_get (v := v) pr
    by_cases c : u = v
    · refine ⟨fun _ => ⟨kv.2, valV_pos (by rw [e, c]), by rw [← c]; exact t⟩, fun h => absurd (List.mem_cons.mpr (.inl c.symm)) h⟩
    · have ne : ¬ kv.1 = (Sum.inl v : Key) := fun z => c (Sum.inl.inj (e.symm.trans z))
      refine ⟨fun h => ?_, fun h => ?_⟩
      · rw [valV_neg ne]
        exact a ((List.mem_cons.mp h).resolve_left fun z => c z.symm)
      · rw [valV_neg ne]
        exact b fun z => h (List.mem_cons_of_mem _ z)
theorem kr_map {H : Hp} {f g : Int → List Int} {v : Int} {w : V} (hw : TP H w (g v)) (hg : ∀ u, u ≠ v → g u = f u) : ∀ {kvs : List (Key × V)} {vs : List Int}, Paired (KR H f) kvs vs → Paired (KR H g) (kvs.map fun kv => if kv.1 = (Sum.inl v : Key) then (kv.1, w) else kv) vs
  | _, _, .nil => .nil
  | kv :: kvs, u :: vs, .cons ⟨e, t⟩ pr => by
    rw [List.map_cons]
    refine .cons ?_ (kr_map hw hg pr)
    by_cases c : u = v
    · rw [if_pos (by rw [e, c])]
      exact ⟨e, by rw [c]; exact hw⟩
    · rw [if_neg fun z => c (Sum.inl.inj (e.symm.trans z))]
      exact ⟨e, by rw [hg u c]; exact t⟩
theorem kr_put {H : Hp} {f g : Int → List Int} {v : Int} {w : V} {kvs : List (Key × V)} {vs : List Int} (pr : Paired (KR H f) kvs vs) (hw : TP H w (g v)) (hg : ∀ u, u ≠ v → g u = f u) :
    Paired (KR H g) (putK kvs (Sum.inl v : Key) w) (if v ∈ vs then vs else vs ++ [v]) := by
  obtain ⟨a, b⟩ := kr_get (v := v) pr
  by_cases c : v ∈ vs
  · rw [if_pos c]
    obtain ⟨x, hx, _⟩ := a c
    unfold putK
    rw [if_pos (by rw [valV_any, hx]; rfl)]
    exact kr_map hw hg pr
  · rw [if_neg c, putK_new _ (b c)]
    refine paired_snoc ⟨rfl, hw⟩ ?_
    have e : (kvs.map fun kv => if kv.1 = (Sum.inl v : Key) then (kv.1, w) else kv) = kvs := by
      conv => rhs; rw [← List.map_id kvs]
      refine List.map_congr_left fun kv hkv => ?_
      have : (kvs.any fun kv => decide (kv.1 = (Sum.inl v : Key))) = false := by rw [valV_any, b c]; rfl
      have h1 := List.any_eq_false.mp this kv hkv
      rw [if_neg fun z => h1 (decide_eq_true z)]
      rfl
    have := kr_map hw hg pr
    rwa [e] at this
theorem kr_vals {H : Hp} {f : Int → List Int} : ∀ {kvs : List (Key × V)} {vs : List Int}, Paired (KR H f) kvs vs → Paired (TP H) (kvs.map (·.2)) (vs.map f)
  | _, _, .nil => .nil
  | _, _, .cons ⟨_, t⟩ pr => .cons t (kr_vals pr)
def rCatC : R2 := fun x y H Q => ∃ a b xs ys, x = .ref a ∧ y = .ref b ∧ H a = some (.tup xs) ∧ H b = some (.tup ys) ∧ xs.length + ys.length ≤ sizeLine ∧ ∀ p H', Same H H' → H' p = some (.tup (xs ++ ys)) → Q (.ref p) H'
theorem op_catC {X : Cx} : OpR X (binaryOp .Add) rCatC := by
  intro pins s σ H x y v u Q I rx ry h
  obtain ⟨a, b, xs, ys, rfl, rfl, ha, hb, hz, q⟩ := h
  refine op_catA pins s σ H _ _ v u Q I rx ry ⟨a, b, xs, ys, rfl, rfl, .inl (.inl ha), .inl (.inl hb), hz, fun e => ?_, fun _ e => ?_, fun _ _ p np => ?_⟩
  · exact q b H (Same.refl _) (by rw [e, List.nil_append]; exact hb)
  · exact q a H (Same.refl _) (by rw [e, List.append_nil]; exact ha)
  · exact q p _ (same_upd np) upd_same
section
variable {P : Program} {w : World} {K : PySem.W.Frag} {mg : Str → Option Value} {base : Heap}
/-! ### from_labels -/
def spFromLabels (K : PySem.W.Frag) (CB : Addr) : Sp := fun vs H Q E => ∃ (n m : Int) (a : Addr) (marks : List Int), vs = [.int n, .int m, .ref a] ∧ SqL K H a (marks.map V.int) ∧ marks.length ≤ 1000 ∧ (siz n m = false → E (.ref CB) none H) ∧
  (siz n m = true → ((marks.length : Int) ≠ n + m → E (.ref CB) none H) ∧ ((marks.length : Int) = n + m → ∀ v H', Same H H' → DGv H' v n m (blocksOf marks) → Q v H'))
theorem ok_from_labels {f CB a_check_size_ : Addr} {fd fd_check_size_ : FuncData} (F : Fun K "from_labels" "from_labels" s_from_labels f fd) (T : ErrC K mg "BadNumber" CB) (z_len : mg "len" = none) (z_enumerate : mg "enumerate" = none) (z_tuple : mg "tuple" = none)
    (G_check_size_ : FnOk P w K mg base (L2N.CX P w) 2 a_check_size_ fd_check_size_ ["n", "m"] (spCheckSize CB)) (g_check_size_ : mg "_check_size" = some (.ref a_check_size_)) (k_check_size_ : PySem.W.keepIn K (.ref a_check_size_) = true) (b_check_size_ : Binds K fd_check_size_ ["n", "m"] []) :
    FnOk P w K mg base (L2N.CX P w) 3 f fd ["n", "m", "marks"] (spFromLabels K CB) := by
  obtain ⟨gc_BadNumber, x_BadNumber, kc_BadNumber, bc_BadNumber, tc_BadNumber⟩ := T
  refine F.okXN sc_from_labels (fun vs H Q E h => ?_) (fun cdv A outer s H vs Q E hr h => ?_)
  · obtain ⟨n, m, a, marks, rfl, _⟩ := h
    rfl
  · obtain ⟨n, m, a, marks, rfl, ha, hl, q1, q⟩ := h
    refine ⟨_, (pss_cons (ps_expr (pe_call G_check_size_ (hr.mono (by decide)) rfl g_check_size_ k_check_size_ b_check_size_ .nil (L2N.passes_call (L2N.takes_of rfl rfl rfl rfl) (fun _ _ _ _ h => h)) (pa_cons (pv 0) (pa_cons (pv 1) pa_nil))))
  (pss_cons (ps_if (pt_cmpR op_ne (pe_callB call_len_seq (by rfl) z_len boot_len (pa_cons (pv 2) pa_nil)) (pe_op op_add (pv 0) (pv 1)) (nomark _)) (pss_one (L2N.ps_raise rfl (L2N.takes_of rfl rfl rfl rfl) (L2N.pmk_own PySem.F.excBase_ValueError x_BadNumber gc_BadNumber kc_BadNumber (raises_own bc_BadNumber tc_BadNumber) rfl))) pss_nil)
  (pss_cons (ps_set (i := 3) sc_from_labels.nd rfl (.inl rfl) pe_dnewK)
  (pss_cons (ps_for (passes_of rfl) rfl (pi_enum rfl z_enumerate (pa_cons (pv 2) pa_nil)) (pg_tup rfl (pgs_cons (pg_name (i := 4) sc_from_labels.nd rfl (.inl rfl)) (pgs_cons (pg_name (i := 5) sc_from_labels.nd rfl (.inl rfl)) pgs_nil))) (pss_one (ps_dput (hu_of hr) (pv 3) (pv 5) (pe_op op_catC (pe_dget2 (hu_of hr) (pv 3) (pv 5) (pe_tup pa_nil) ⟨by rfl, by rfl, by rfl, by rfl⟩) (pe_tup (pa_cons (pv 4) pa_nil))) rfl)))
  (pss_one (ps_ret (pe_tup (pa_cons (pv 0) (pa_cons (pv 1) (pa_cons (pe_tupVals rfl rfl z_tuple (pv 3)) pa_nil)))))))))), ?_⟩
    have szl : 20000 ≤ sizeLine := by decide
    refine ⟨_, rfl, _, rfl, n, m, rfl, fun cs => ?_, q1⟩
    obtain ⟨qB, q⟩ := q cs
    refine ⟨_, rfl, a, _, rfl, .inl ha, _, rfl, _, rfl, _, _, rfl, rfl, rfl, _, rfl, ?_⟩
    rw [List.length_map]
    by_cases cl : (marks.length : Int) = n + m
    · refine if_neg_of (by rw [decide_eq_true (congrArg V.int cl)]; exact Bool.false_ne_true) ?_
      have q := q cl
      refine fun D nD => ?_
      refine ⟨_, rfl, a, _, rfl, sqL_same (same_upd nD) ha, for_it walk_enum (fun i σ H' => ∃ (kvs : List (Key × V)) (v4 v5 : Option V), σ = [some (.int n), some (.int m), some (.ref a), some (.ref D), v4, v5] ∧ Same H H' ∧ H' D = some (.dK kvs) ∧ kvs.length ≤ i ∧ Paired (KR H' (posOf (marks.take i))) kvs (seenL [] (marks.take i)))
        ⟨[], none, none, rfl, same_upd nD, upd_same, Nat.le_refl _, .nil⟩ (fun i σ H' _ ⟨_, _, _, _, s', _⟩ => sqL_same s' ha) (fun i y σ H2 H3 hi hP hy => ?_) (fun σ H' hP => ?_)⟩
      · obtain ⟨kvs, v4, v5, rfl, s2, hD2, lk, pr⟩ := hP
        obtain ⟨p, x, y', rfl, np, rfl, ex, ey⟩ := hy
        rw [List.length_map] at hi
        obtain rfl : V.int (i : Nat) = x := Option.some.inj ex
        have ey2 : (marks.map V.int)[i]? = some (.int (co marks i)) := by rw [List.getElem?_map, co_get hi]; rfl
        obtain rfl : V.int (co marks i) = y' := Option.some.inj (ey2.symm.trans ey)
        refine ⟨p, _, rfl, .inl (.inl upd_same), rfl, _, _, rfl, _, _, rfl, rfl, ?_⟩
        have q3 := same_upd (o := .tup [.int (i : Nat), .int (co marks i)]) np
        have hD3 := q3 _ _ hD2
        refine ⟨_, rfl, D, rfl, .inl ⟨kvs, .inl hD3⟩, _, rfl, (by show 0 ≤ sizeLine; decide), fun e ne => ?_⟩
        have q4 := Same.trans q3 (same_upd (o := .tup []) ne)
        have hD4 := q4 _ _ hD2
        have pr4 : Paired (KR _ (posOf (marks.take i))) kvs (seenL [] (marks.take i)) := Paired.mapP pr fun _ _ h => ⟨h.1, h.2.same q4⟩
        refine ⟨_, DGet.k (k := (Sum.inl (co marks i) : Key)) hD4, ?_⟩
        obtain ⟨w0, ew, tw⟩ : ∃ w0, (valV kvs (Sum.inl (co marks i) : Key)).getD (.ref e) = w0 ∧ TP (upd (upd H2 p (.tup [.int (i : Nat), .int (co marks i)])) e (.tup [])) w0 (posOf (marks.take i) (co marks i)) := by
          by_cases c : co marks i ∈ seenL [] (marks.take i)
          · obtain ⟨w0, h1, h2⟩ := (kr_get (v := co marks i) pr4).1 c
            exact ⟨w0, by rw [h1]; rfl, h2⟩
          · rw [(kr_get (v := co marks i) pr4).2 c, posOf_none fun z => c ((seenL_mem _ _ _).mpr (.inr z))]
            exact ⟨.ref e, rfl, e, rfl, upd_same⟩
        rw [ew]
        obtain ⟨t0, rfl, ht0⟩ := tw
        refine ⟨_, rfl, (by show 1 ≤ sizeLine; decide), fun p1 np1 => ?_⟩
        have q5 := same_upd (o := .tup [.int (i : Nat)]) np1
        have lpos : (posOf (marks.take i) (co marks i)).length ≤ i := by
          unfold posOf
          rw [List.length_map]
          have h1 := List.length_filter_le (fun j => decide (co (marks.take i) j = co marks i)) (List.range (marks.take i).length)
          rw [List.length_range] at h1
          have h2 : (marks.take i).length ≤ i := by rw [List.length_take]; omega
          omega
        refine ⟨t0, p1, _, [.int (i : Nat)], rfl, rfl, q5 _ _ ht0, upd_same, by rw [List.length_map]; show _ + 1 ≤ _; omega, fun t H6 s6 ht => ?_⟩
        have s26 := Same.trans q4 (Same.trans q5 s6)
        have hD6 := s26 _ _ hD2
        refine ⟨_, rfl, _, rfl, D, _, rfl, DPut.k (k := (Sum.inl (co marks i) : Key)) hD6 (by omega), ?_⟩
        have tnew : TP H6 (.ref t) (posOf (marks.take (i + 1)) (co marks i)) := ⟨t, rfl, by rw [posOf_take hi, if_pos rfl, List.map_append]; exact ht⟩
        have pr6 := kr_put (g := posOf (marks.take (i + 1))) (Paired.mapP pr fun _ _ h => ⟨h.1, h.2.same s26⟩ : Paired (KR H6 (posOf (marks.take i))) kvs (seenL [] (marks.take i))) tnew fun u hu => by rw [posOf_take hi, if_neg (Ne.symm hu)]
        have keepT : ∀ {x : V} {z : List Int}, TP H6 x z → TP (upd H6 D (.dK (putK kvs (Sum.inl (co marks i) : Key) (.ref t)))) x z := fun {x z} ⟨t, e, h⟩ => ⟨t, e, by rw [upd_ne (ne_of h hD6 (fun z => nomatch z))]; exact h⟩
        refine ⟨_, _, _, rfl, Same.mut (Same.trans s2 s26) nD, upd_same, ?_, ?_⟩
        · unfold putK
          split
          · rw [List.length_map]
            omega
          · rw [List.length_append]
            exact Nat.succ_le_succ lk
        · rw [take_snoc hi, seenL_snoc, ← take_snoc hi]
          exact Paired.mapP pr6 fun _ _ h => ⟨h.1, keepT h.2⟩
      · obtain ⟨kvs, v4, v5, rfl, s2, hD2, lk, pr⟩ := hP
        rw [List.length_map, List.take_length] at pr
        refine ⟨_, rfl, _, rfl, _, rfl, D, kvs, rfl, hD2, fun tb ntb => ?_⟩
        refine ⟨(by show 3 ≤ sizeLine; decide), fun t nt => ?_⟩
        have q3 := same_upd (o := .tup (kvs.map (·.2))) ntb
        have q4 := same_upd (o := .tup [.int n, .int m, .ref tb]) nt
        have sf := Same.trans q3 q4
        refine q (.ref t) _ (Same.trans s2 sf) ⟨t, .ref tb, rfl, upd_same, tb, _, rfl, q4 _ _ upd_same, ?_⟩
        unfold blocksOf
        exact kr_vals (Paired.mapP pr fun _ _ h => ⟨h.1, h.2.same sf⟩)
    · exact if_pos_of (by rw [decide_eq_false fun z => cl (V.int.inj z)]; rfl) (qB cl)
end

/-! ### marks as they are drawn -/
def Strand (n : Nat) (l : List Int) : Prop := ∀ p q : Nat, p < q → q < l.length → co l p = co l q → p < n ∧ n ≤ q
def Mated (l : List Int) : Prop := ∀ p : Nat, p < l.length → ∃ q, q < l.length ∧ q ≠ p ∧ co l q = co l p
structure FamM (z : Str) (n m : Nat) (l : List Int) : Prop where
  st : z = "threads" ∨ z = "loose" → Strand n l
  ma : z = "threads" → n = m → Mated l
  pa : z = "pairs" → (n + m) % 2 = 0 → ∀ v ∈ l, l.count v = 2
  lo : z = "lonepairs" → ∀ v, l.count v ≤ 2
  ev : z = "even" → (n + m) % 2 = 0 → ∀ v, l.count v % 2 = 0
theorem mem_ixs {N : Nat} {x : Int} : x ∈ ixs N ↔ 0 ≤ x ∧ x < (N : Int) := by
  unfold ixs
  rw [List.mem_map]
  constructor
  · rintro ⟨i, hi, rfl⟩
    have := List.mem_range.mp hi
    omega
  · rintro ⟨h0, h1⟩
    exact ⟨x.toNat, List.mem_range.mpr (by omega), by omega⟩
theorem ixs_len' (N : Nat) : (ixs N).length = N := by
  unfold ixs
  rw [List.length_map, List.length_range]
theorem co_ixs {N i : Nat} (h : i < N) : co (ixs N) i = (i : Int) := by
  have e := co_get (l := ixs N) (k := i) (by rw [ixs_len']; exact h)
  unfold ixs at e ⊢
  rw [List.getElem?_map, List.getElem?_range h] at e
  exact (Option.some.inj e).symm
theorem ixs_nodup (N : Nat) : (ixs N).Nodup := by
  unfold ixs
  exact List.pairwise_map.mpr ((range_lt N).imp fun {a b} h => by omega)
theorem co_app_l {a b : List Int} {i : Nat} (h : i < a.length) : co (a ++ b) i = co a i := by
  have e := co_get (l := a ++ b) (k := i) (by rw [List.length_append]; omega)
  rw [List.getElem?_append_left h, co_get h] at e
  exact (Option.some.inj e).symm
theorem co_app_r {a b : List Int} {i : Nat} (h : i < b.length) : co (a ++ b) (a.length + i) = co b i := by
  have e := co_get (l := a ++ b) (k := a.length + i) (by rw [List.length_append]; omega)
  rw [List.getElem?_append_right (by omega), show a.length + i - a.length = i by omega, co_get h] at e
  exact (Option.some.inj e).symm
theorem nodup_erase {l : List Int} (h : l.Nodup) {k : Nat} (hk : k < l.length) {y : Int} (hy : y ∈ l.eraseIdx k) : y ∈ l ∧ y ≠ co l k := by
  refine ⟨List.mem_of_mem_eraseIdx hy, fun e => ?_⟩
  obtain ⟨j, hj⟩ := List.mem_eraseIdx_iff_getElem?.mp hy
  have e2 := co_get hk
  rw [← e] at e2
  have lj := (List.getElem?_eq_some_iff.mp hj.2)
  obtain ⟨lj1, lj2⟩ := lj
  obtain ⟨lk1, lk2⟩ := List.getElem?_eq_some_iff.mp e2
  exact hj.1 ((List.getElem_inj h).mp (lj2.trans lk2.symm))
theorem mem_erase_ne {l : List Int} {k : Nat} (hk : k < l.length) {y : Int} (hy : y ∈ l) (ne : y ≠ co l k) : y ∈ l.eraseIdx k := by
  obtain ⟨j, hj, e⟩ := mem_get hy
  refine List.mem_eraseIdx_iff_getElem?.mpr ⟨j, fun c => ne ?_, ?_⟩
  · rw [← e, c]
  · rw [co_get hj, e]
/-- while marks are threaded -/
structure ThrI (n m i : Nat) (l ls : List Int) : Prop where
  len : l.length = n + m
  up : ∀ p : Nat, p < n → co l p = p
  low : ∀ j : Nat, j < m → co l (n + j) = -1 - (j : Int) ∨ (0 ≤ co l (n + j) ∧ co l (n + j) < i)
  dis : ∀ j j' : Nat, j < j' → j' < m → co l (n + j) ≠ co l (n + j')
  nd : ls.Nodup
  free : ∀ x ∈ ls, ∃ j : Nat, x = j ∧ j < m ∧ co l (n + j) = -1 - (j : Int)
  rest : ∀ j : Nat, j < m → (j : Int) ∉ ls → 0 ≤ co l (n + j)
  cap : ls.length ≤ m
structure ThrT (n m i : Nat) (l ls : List Int) : Prop where
  many : ls.length = m - i
  hit : ∀ a : Nat, a < i → ∃ j, j < m ∧ co l (n + j) = a
theorem ThrI.skip {n m i : Nat} {l ls : List Int} (h : ThrI n m i l ls) : ThrI n m (i + 1) l ls :=
  ⟨h.len, h.up, fun j hj => (h.low j hj).imp_right fun z => ⟨z.1, by omega⟩, h.dis, h.nd, h.free, h.rest, h.cap⟩
theorem thr_at {n m i : Nat} {l ls : List Int} (h : ThrI n m i l ls) {k : Nat} (hk : k < ls.length) : ∃ j : Nat, co ls k = j ∧ j < m ∧ co l (n + j) = -1 - (j : Int) := h.free _ (co_mem hk)
theorem ThrI.step {n m i : Nat} {l ls : List Int} (h : ThrI n m i l ls) {k j : Nat} (hk : k < ls.length) (hj : j < m) (ej : co ls k = j) : ThrI n m (i + 1) (l.set (n + j) (i : Int)) (ls.eraseIdx k) := by
  have hl := h.len
  have c : ∀ p : Nat, co (l.set (n + j) (i : Int)) p = if p = n + j then (i : Int) else co l p := fun p => co_set p (by omega)
  refine ⟨by rw [List.length_set]; exact hl, fun p hp => ?_, fun j' hj' => ?_, fun j1 j2 h1 h2 => ?_, h.nd.sublist (List.eraseIdx_sublist _ _), fun x hx => ?_, fun j' hj' hn => ?_, by rw [List.length_eraseIdx_of_lt hk]; have := h.cap; omega⟩
  · rw [c, if_neg (by omega)]
    exact h.up p hp
  · rw [c]
    by_cases e : j' = j
    · rw [if_pos (by omega)]
      exact .inr ⟨by omega, by omega⟩
    · rw [if_neg (by omega)]
      exact (h.low j' hj').imp_right fun z => ⟨z.1, by omega⟩
  · rw [c, c]
    have d := h.dis j1 j2 h1 h2
    have l1 := h.low j1 (by omega)
    have l2 := h.low j2 (by omega)
    by_cases e1 : j1 = j
    · rw [if_pos (by omega), if_neg (by omega)]
      omega
    · rw [if_neg (by omega)]
      by_cases e2 : j2 = j
      · rw [if_pos (by omega)]
        omega
      · rw [if_neg (by omega)]
        exact d
  · obtain ⟨hx1, hx2⟩ := nodup_erase h.nd hk hx
    obtain ⟨j', e1, e2, e3⟩ := h.free x hx1
    refine ⟨j', e1, e2, ?_⟩
    rw [c, if_neg (by omega)]
    exact e3
  · rw [c]
    by_cases e : j' = j
    · rw [if_pos (by omega)]
      omega
    · rw [if_neg (by omega)]
      exact h.rest j' hj' fun z => hn (mem_erase_ne hk z (by rw [ej]; omega))
theorem ThrT.step {n m i : Nat} {l ls : List Int} (h : ThrI n m i l ls) (t : ThrT n m i l ls) {k j : Nat} (hk : k < ls.length) (hj : j < m) (ej : co ls k = j) : ThrT n m (i + 1) (l.set (n + j) (i : Int)) (ls.eraseIdx k) := by
  have hl := h.len
  have c : ∀ p : Nat, co (l.set (n + j) (i : Int)) p = if p = n + j then (i : Int) else co l p := fun p => co_set p (by omega)
  refine ⟨by rw [List.length_eraseIdx_of_lt hk, t.many]; omega, fun a ha => ?_⟩
  by_cases e : a = i
  · exact ⟨j, hj, by rw [c, if_pos rfl, e]⟩
  · obtain ⟨j', h1, h2⟩ := t.hit a (by omega)
    refine ⟨j', h1, ?_⟩
    rw [c, if_neg]
    · exact h2
    · intro z
      obtain ⟨j3, e3, _, e4⟩ := thr_at h hk
      rw [z] at h2
      rw [ej] at e3
      have : j3 = j := by omega
      rw [this] at e4
      omega
theorem ThrI.strand {n m i : Nat} {l ls : List Int} (h : ThrI n m i l ls) : Strand n l := by
  intro p q hpq hq e
  have hl := h.len
  rcases Nat.lt_or_ge q n with c | c
  · rw [h.up p (by omega), h.up q c] at e
    omega
  · refine ⟨?_, c⟩
    rcases Nat.lt_or_ge p n with c2 | c2
    · exact c2
    · refine absurd ?_ (h.dis (p - n) (q - n) (by omega) (by omega))
      rw [show n + (p - n) = p by omega, show n + (q - n) = q by omega]
      exact e
theorem ThrI.mated {n : Nat} {l ls : List Int} (h : ThrI n n n l ls) (t : ThrT n n n l ls) : Mated l := by
  intro p hp
  have hl := h.len
  have e0 : ls = [] := List.length_eq_zero_iff.mp (by rw [t.many]; omega)
  rcases Nat.lt_or_ge p n with c | c
  · obtain ⟨j, hj, e⟩ := t.hit p c
    exact ⟨n + j, by omega, by omega, by rw [e, h.up p c]⟩
  · have r := h.rest (p - n) (by omega) (by rw [e0]; exact fun z => nomatch z)
    have lo := h.low (p - n) (by omega)
    rw [show n + (p - n) = p by omega] at r lo
    refine ⟨(co l p).toNat, by omega, by omega, ?_⟩
    rw [h.up _ (by omega)]
    omega
/-- while marks are paired -/
structure PrI (lone : Bool) (N i : Nat) (l ls : List Int) : Prop where
  len : l.length = N
  nd : ls.Nodup
  free : ∀ x ∈ ls, ∃ p : Nat, x = p ∧ p < N ∧ co l p = x ∧ l.count x = 1
  rest : ∀ v, v ∉ ls → l.count v = 0 ∨ l.count v = 2 ∨ (lone = true ∧ l.count v = 1)
  many : lone = false → ls.length + 2 * i = N
  cap : ls.length ≤ N
theorem count_ixs {N : Nat} {x : Int} (h : x ∈ ixs N) : (ixs N).count x = 1 := (ixs_nodup N).count.trans (if_pos h)
theorem PrI.start (lone : Bool) (N : Nat) : PrI lone N 0 (ixs N) (ixs N) :=
  ⟨ixs_len' N, ixs_nodup N, fun x hx => ⟨x.toNat, by have := mem_ixs.mp hx; omega, by have := mem_ixs.mp hx; omega, by have := mem_ixs.mp hx; rw [co_ixs (by omega)]; omega, count_ixs hx⟩, fun v hv => .inl (List.count_eq_zero.mpr hv), fun _ => ixs_len' N, Nat.le_of_eq (ixs_len' N)⟩
theorem PrI.step {lone : Bool} {N i : Nat} {l ls : List Int} {one : Int} (h : PrI lone N i l (one :: ls)) {k p : Nat} (hk : k < ls.length) (hp : p < N) (ep : co ls k = p) : PrI lone N (i + 1) (l.set p one) (ls.eraseIdx k) := by
  obtain ⟨n1, n2⟩ := List.nodup_cons.mp h.nd
  have mx := co_mem hk
  obtain ⟨p', e1, e2, e3, e4⟩ := h.free (co ls k) (List.mem_cons_of_mem _ mx)
  obtain rfl : p' = p := by omega
  have hl := h.len
  have nx : one ≠ co ls k := fun z => n1 (z ▸ mx)
  obtain ⟨po, o1, o2, o3, o4⟩ := h.free one List.mem_cons_self
  have g : l[p']'(by omega) = co ls k := by
    have := co_get (l := l) (k := p') (by omega)
    rw [List.getElem?_eq_getElem (by omega)] at this
    rw [Option.some.inj this, e3]
  have cs : ∀ b, (l.set p' one).count b = l.count b - (if co ls k = b then 1 else 0) + (if one = b then 1 else 0) := by
    intro b
    rw [List.count_set (by omega), g]
    simp only [beq_iff_eq]
  refine ⟨by rw [List.length_set]; exact hl, n2.sublist (List.eraseIdx_sublist _ _), fun y hy => ?_, fun v hv => ?_, fun e => ?_, by have := h.cap; rw [List.length_cons] at this; rw [List.length_eraseIdx_of_lt hk]; omega⟩
  · obtain ⟨h1, h2⟩ := nodup_erase n2 hk hy
    obtain ⟨q, f1, f2, f3, f4⟩ := h.free y (List.mem_cons_of_mem _ h1)
    refine ⟨q, f1, f2, ?_, ?_⟩
    · rw [co_set q (by omega), if_neg (by omega)]
      exact f3
    · rw [cs, if_neg (Ne.symm h2), if_neg (show ¬ one = y from fun z => n1 (z ▸ h1))]
      exact f4
  · rw [cs]
    by_cases c1 : one = v
    · rw [if_pos c1, if_neg fun z => nx (c1.trans z.symm), ← c1, o4]
      exact .inr (.inl rfl)
    · rw [if_neg c1]
      by_cases c2 : co ls k = v
      · rw [if_pos c2, ← c2, e4]
        exact .inl rfl
      · rw [if_neg c2]
        exact h.rest v fun z => by
          rcases List.mem_cons.mp z with z | z
          · exact c1 z.symm
          · exact hv (mem_erase_ne hk z (Ne.symm c2))
  · have := h.many e
    rw [List.length_cons] at this
    rw [List.length_eraseIdx_of_lt hk]
    omega
theorem PrI.skip {N i : Nat} {l ls : List Int} {one : Int} (h : PrI true N i l (one :: ls)) : PrI true N (i + 1) l ls := by
  obtain ⟨n1, n2⟩ := List.nodup_cons.mp h.nd
  refine ⟨h.len, n2, fun y hy => h.free y (List.mem_cons_of_mem _ hy), fun v hv => ?_, (fun e => nomatch e), by have := h.cap; rw [List.length_cons] at this; omega⟩
  by_cases c : v = one
  · obtain ⟨_, _, _, _, e⟩ := h.free one List.mem_cons_self
    exact .inr (.inr ⟨rfl, c ▸ e⟩)
  · exact h.rest v fun z => (List.mem_cons.mp z).elim c hv
theorem PrI.two {N i : Nat} {l ls : List Int} (h : PrI false N i l ls) (e : ls.length < 2 ∨ i = N) (hN : N % 2 = 0) (v : Int) : l.count v = 0 ∨ l.count v = 2 := by
  have m := h.many rfl
  have e0 : ls = [] := List.length_eq_zero_iff.mp (by omega)
  rcases h.rest v (by rw [e0]; exact fun z => nomatch z) with h | h | h
  · exact .inl h
  · exact .inr h
  · exact nomatch h.1
theorem PrI.most {lone : Bool} {N i : Nat} {l ls : List Int} (h : PrI lone N i l ls) (v : Int) : l.count v ≤ 2 := by
  by_cases c : v ∈ ls
  · obtain ⟨_, _, _, _, e⟩ := h.free v c
    omega
  · rcases h.rest v c with h | h | h <;> omega
/-- two marks joined -/
def jn (l : List Int) (x y : Nat) : List Int := l.map fun c => if c = (if co l y > co l x then co l y else co l x) then (if co l y < co l x then co l y else co l x) else c
theorem jn_len (l : List Int) (x y : Nat) : (jn l x y).length = l.length := List.length_map ..
theorem count_merge (lo hi v : Int) : ∀ l : List Int, (l.map fun c => if c = hi then lo else c).count v = if v = lo then l.count lo + (if hi = lo then 0 else l.count hi) else if v = hi then 0 else l.count v
  | [] => by simp
  | a :: l => by
    rw [List.map_cons, List.count_cons, count_merge lo hi v l, List.count_cons, List.count_cons, List.count_cons]
    simp only [beq_iff_eq]
    by_cases c1 : v = lo
    · subst c1
      rw [if_pos rfl, if_pos rfl]
      by_cases c2 : hi = v
      · subst c2
        rw [if_pos rfl, if_pos rfl]
        by_cases c3 : a = hi <;> simp [c3]
      · rw [if_neg c2, if_neg c2]
        by_cases c3 : a = hi
        · subst c3
          rw [if_pos rfl, if_pos rfl, if_neg c2]
          simp
          omega
        · rw [if_neg c3]
          by_cases c4 : a = v
          · simp [c4]
            rw [if_neg (fun z => c3 (c4.trans z))]
            omega
          · simp [c4, c3]
    · rw [if_neg c1, if_neg c1]
      by_cases c2 : v = hi
      · subst c2
        rw [if_pos rfl, if_pos rfl]
        by_cases c3 : a = v
        · rw [if_pos c3, if_neg (Ne.symm c1)]
        · rw [if_neg c3, if_neg c3]
      · rw [if_neg c2, if_neg c2]
        by_cases c3 : a = hi
        · rw [if_pos c3, if_neg (Ne.symm c1), if_neg]
          intro z
          exact c2 (z.symm.trans c3)
        · rw [if_neg c3]
theorem jn_even {l : List Int} {x y : Nat} (h : ∀ v, l.count v % 2 = 0) (v : Int) : (jn l x y).count v % 2 = 0 := by
  unfold jn
  rw [count_merge]
  have h1 := h (if co l y < co l x then co l y else co l x)
  have h2 := h (if co l y > co l x then co l y else co l x)
  have h3 := h v
  revert h1 h2
  generalize (if co l y < co l x then co l y else co l x) = lo
  generalize (if co l y > co l x then co l y else co l x) = hi
  intro h1 h2
  by_cases c1 : v = lo
  · rw [if_pos c1]
    by_cases c2 : hi = lo
    · rw [if_pos c2]
      omega
    · rw [if_neg c2]
      omega
  · rw [if_neg c1]
    by_cases c2 : v = hi
    · rw [if_pos c2]
    · rw [if_neg c2]
      exact h3

/-! ### tuples of tuples, put together and cut -/
theorem paired_drop {α β : Type} {F : α → β → Prop} : ∀ {l : List α} {m : List β} (i : Nat), Paired F l m → Paired F (l.drop i) (m.drop i)
  | _, _, 0, h => h
  | _, _, _ + 1, .nil => .nil
  | _, _, i + 1, .cons _ h => paired_drop i h
theorem paired_take {α β : Type} {F : α → β → Prop} : ∀ {l : List α} {m : List β} (i : Nat), Paired F l m → Paired F (l.take i) (m.take i)
  | _, _, 0, _ => .nil
  | _, _, _ + 1, .nil => .nil
  | _, _, i + 1, .cons a h => .cons a (paired_take i h)
theorem paired_app {α β : Type} {F : α → β → Prop} : ∀ {l l' : List α} {m m' : List β}, Paired F l m → Paired F l' m' → Paired F (l ++ l') (m ++ m')
  | _, _, _, _, .nil, h => h
  | _, _, _, _, .cons a h, h' => .cons a (paired_app h h')
theorem paired_rev {α β : Type} {F : α → β → Prop} : ∀ {l : List α} {m : List β}, Paired F l m → Paired F l.reverse m.reverse
  | _, _, .nil => .nil
  | _, _, .cons a h => by
    rw [List.reverse_cons, List.reverse_cons]
    exact paired_app (paired_rev h) (.cons a .nil)
def cutL {α : Type} (xs : List α) (lo hi : Option Int) : List α := (xs.drop (HT.sIx xs.length 0 lo)).take (HT.sIx xs.length xs.length hi - HT.sIx xs.length 0 lo)
theorem sIx_all (n : Nat) (h : HT.sIx n 0 none = 0 ∧ HT.sIx n n none = n) : True := trivial
def rCatTT : R2 := fun x y H Q => ∃ bs cs, TT H x bs ∧ TT H y cs ∧ bs.length + cs.length ≤ sizeLine ∧ ∀ v H', Same H H' → TT H' v (bs ++ cs) → Q v H'
theorem op_catTT {X : Cx} : OpR X (binaryOp .Add) rCatTT := by
  intro pins s σ H x y v u Q I rx ry h
  obtain ⟨bs, cs, ⟨a, ts, rfl, ha, pa⟩, ⟨b, us, rfl, hb, pb⟩, hz, q⟩ := h
  have la : ts.length = bs.length := pa.length
  have lb : us.length = cs.length := pb.length
  refine op_catA pins s σ H _ _ v u Q I rx ry ⟨a, b, ts, us, rfl, rfl, .inl (.inl ha), .inl (.inl hb), by omega, fun e => ?_, fun _ e => ?_, fun _ _ p np => ?_⟩
  · refine q _ H (Same.refl _) ⟨b, us, rfl, hb, ?_⟩
    subst e
    cases pa
    exact pb
  · refine q _ H (Same.refl _) ⟨a, ts, rfl, ha, ?_⟩
    subst e
    cases pb
    rw [List.append_nil]
    exact pa
  · have s1 := same_upd (o := .tup (ts ++ us)) np
    exact q _ _ s1 ⟨p, _, rfl, upd_same, paired_app (Paired.mapP pa fun _ _ h => h.same s1) (Paired.mapP pb fun _ _ h => h.same s1)⟩
def rSlTT : V → Option Int → Option Int → Hp → VK → Prop := fun x lo hi H Q => ∃ bs, TT H x bs ∧ ∀ v H', Same H H' → TT H' v (cutL bs lo hi) → Q v H'
theorem sl_TT {X : Cx} : SlR X rSlTT := by
  intro pins s σ H x v vl vu lo hi sl Q I rx hs pl pu h
  obtain ⟨bs, ⟨a, ts, rfl, ha, pa⟩, q⟩ := h
  have la : ts.length = bs.length := pa.length
  refine sl_tupA pins s σ H _ v vl vu lo hi sl Q I rx hs pl pu ⟨a, ts, rfl, .inl (.inl ha), fun e => ?_, fun _ p np => ?_⟩
  · refine q _ H (Same.refl _) ⟨a, ts, rfl, ha, ?_⟩
    unfold cutL
    rw [← la, e.1, e.2, la]
    show Paired (TP H) ts ((bs.drop 0).take (bs.length - 0))
    rw [List.drop_zero, Nat.sub_zero, List.take_length]
    exact pa
  · have s1 := same_upd (o := .tup (cutV ts lo hi)) np
    refine q _ _ s1 ⟨p, _, rfl, upd_same, ?_⟩
    unfold cutL cutV
    rw [← la]
    exact paired_take _ (paired_drop _ (Paired.mapP pa fun _ _ h => h.same s1))
theorem flat_le {c : Nat} : ∀ {bs : List (List Int)}, (∀ b ∈ bs, b.length ≤ c) → bs.flatten.length ≤ c * bs.length
  | [], _ => Nat.zero_le _
  | b :: bs, h => by
    rw [List.flatten_cons, List.length_append, List.length_cons, Nat.mul_succ]
    have := flat_le (bs := bs) fun b hb => h b (List.mem_cons_of_mem _ hb)
    have := h b List.mem_cons_self
    omega
theorem len_flat : ∀ {bs : List (List Int)}, (∀ b ∈ bs, b ≠ []) → bs.length ≤ bs.flatten.length
  | [], _ => Nat.le_refl _
  | b :: bs, h => by
    rw [List.flatten_cons, List.length_append, List.length_cons]
    have := len_flat (bs := bs) fun b hb => h b (List.mem_cons_of_mem _ hb)
    have := List.length_pos_iff.mpr (h b List.mem_cons_self)
    omega
/-- few blocks, each of few points -/
def Few (c : Nat) (bs : List (List Int)) : Prop := bs.length ≤ c ∧ ∀ b ∈ bs, b.length ≤ 13
theorem Few.ok {n m : Int} {bs : List (List Int)} (h : Few 40 bs) (hn : n.natAbs ≤ 1000) (hm : m.natAbs ≤ 1000) : DgOk n m bs := by
  have := flat_le h.2
  exact ⟨hn, hm, by have := h.1; omega, by have := h.1; omega⟩
theorem Few.cut {c : Nat} {bs : List (List Int)} (h : Few c bs) (i j : Nat) : Few c ((bs.drop i).take j) :=
  ⟨by have := h.1; rw [List.length_take, List.length_drop]; omega, fun b hb => h.2 b (List.mem_of_mem_drop (List.mem_of_mem_take hb))⟩
theorem Few.app {c d : Nat} {bs cs : List (List Int)} (h : Few c bs) (g : Few d cs) : Few (c + d) (bs ++ cs) :=
  ⟨by have := h.1; have := g.1; rw [List.length_append]; omega, fun b hb => (List.mem_append.mp hb).elim (h.2 b) (g.2 b)⟩
theorem Few.more {c d : Nat} {bs : List (List Int)} (h : Few c bs) (hd : c ≤ d) : Few d bs := ⟨Nat.le_trans h.1 hd, h.2⟩
theorem IsDg.few {n m : Int} {bs : List (List Int)} (h : IsDg n m bs) : Few 12 bs := by
  have hs := siz_iff.mp h.sz
  have e := h.pm.length_eq
  rw [ixs_len] at e
  have l1 := len_flat h.ne
  refine ⟨by omega, fun b hb => ?_⟩
  have := mem_len hb
  omega

/-! ### families -/
def strandB (n : Int) (b : List Int) : Bool := decide (b.length = 2) && decide (co b 0 < n ∧ n ≤ co b 1)
def sizeOk (z : Str) (k : Nat) : Bool := if z = "pairs" then decide (k = 2) else if z = "lonepairs" then decide (k ≤ 2) else if z = "even" then decide (k % 2 = 0) else true
def blockOk (z : Str) (n : Int) (b : List Int) : Bool := if z = "threads" then strandB n b else if z = "loose" then decide (b.length = 1) || strandB n b else sizeOk z b.length
def inFam (z : Str) (n : Int) (bs : List (List Int)) : Bool := bs.all (blockOk z n)
theorem inV_str (z : Str) : ∀ l : List Str, inV (.str z) (l.map V.str) = decide (z ∈ l)
  | [] => rfl
  | x :: l => by
    show (eqV (.str x) (.str z) || inV (.str z) (l.map V.str)) = _
    rw [inV_str z l]
    have e : eqV (.str x) (.str z) = decide (x = z) := by
      by_cases c : x = z <;> simp [eqV, c]
    rw [e]
    by_cases c : x = z
    · rw [decide_eq_true c, decide_eq_true (List.mem_cons.mpr (.inl c.symm))]
      rfl
    · rw [decide_eq_false c, Bool.false_or]
      refine decide_eq_decide.mpr ⟨fun z => List.mem_cons_of_mem _ z, fun z => (List.mem_cons.mp z).resolve_left fun z => c z.symm⟩
theorem dec_int {k : Nat} {c : Nat} : decide (V.int (k : Int) = V.int (c : Int)) = decide (k = c) := decide_eq_decide.mpr ⟨fun h => by have := V.int.inj h; omega, fun h => by rw [h]⟩
section
variable {P : Program} {w : World} {K : PySem.W.Frag} {mg : Str → Option Value} {base : Heap}
def spCheckFamily (CF : Addr) : Sp := fun vs H Q E => ∃ z : Str, vs = [.str z] ∧ (z ∈ fams → Q .non H) ∧ (z ∉ fams → E (.ref CF) none H)
theorem ok_check_family {f CF aF : Addr} {fd : FuncData} (F : Fun K "check_family" "check_family" s_check_family f fd) (T : ErrC K mg "NotFamily" CF) (m_FAMILIES : mg "FAMILIES" = some (.ref aF)) (tF : ∀ H, SqT K H aF (fams.map V.str)) :
    FnOk P w K mg base (L2N.CX P w) 1 f fd ["family"] (spCheckFamily CF) := by
  obtain ⟨gc_NotFamily, x_NotFamily, kc_NotFamily, bc_NotFamily, tc_NotFamily⟩ := T
  have r_FAMILIES : RelV (.ref aF) (.ref aF) := rfl
  refine F.okXN sc_check_family (fun vs H Q E h => ?_) (fun cdv A outer s H vs Q E hr h => ?_)
  · obtain ⟨z, rfl, _⟩ := h
    rfl
  · obtain ⟨z, rfl, q1, q2⟩ := h
    refine ⟨_, (pss_one (ps_if (pt_cmpR op_notIn_seq (pv 0) (pe_glob rfl m_FAMILIES r_FAMILIES) (by with_unfolding_all rfl)) (pss_one (L2N.ps_raise rfl (L2N.takes_of rfl rfl rfl rfl) (L2N.pmk_own PySem.F.excBase_ValueError x_NotFamily gc_NotFamily kc_NotFamily (raises_own bc_NotFamily tc_NotFamily) rfl))) pss_nil)), ?_⟩
    refine ⟨_, rfl, aF, _, rfl, .inr (tF _), rfl, rfl, _, rfl, ?_⟩
    rw [show (if true = true then !inV (.str z) (fams.map V.str) else inV (.str z) (fams.map V.str)) = !inV (.str z) (fams.map V.str) from rfl, inV_str]
    by_cases c : z ∈ fams
    · rw [decide_eq_true c]
      exact iteF (q1 c)
    · rw [decide_eq_false c]
      exact iteT (q2 c)
def spIsStrand : Sp := fun vs H Q _ => ∃ (n : Int) (v : V) (b : List Int), vs = [.int n, v] ∧ TP H v b ∧ Q (.bl (strandB n b)) H
theorem ok_is_strand_ {f : Addr} {fd : FuncData} (F : Fun K "_is_strand" "_is_strand" s_is_strand_ f fd) (z_len : mg "len" = none) : FnOk P w K mg base CX0 1 f fd ["n", "block"] spIsStrand := by
  refine F.ok sc_is_strand_ (fun vs H Q E h => ?_) (fun cdv A outer s H vs Q E hr h => ?_)
  · obtain ⟨n, v, b, rfl, _⟩ := h
    rfl
  · obtain ⟨n, v, b, rfl, ⟨t, rfl, ht⟩, q⟩ := h
    refine ⟨_, (pss_one (ps_ret (pe_and (pe_cmpR op_eq (pe_callB call_len_seq (by rfl) z_len boot_len (pa_cons (pv 1) pa_nil)) pe_int (nomark _)) (pe_one (pe_chain op_lt op_le (pe_ix ix_tup (pv 1) pe_int (fun _ _ => rfl)) (pv 0) (pe_ix ix_tup (pv 1) pe_int (fun _ _ => rfl))))))), ?_⟩
    unfold strandB at q
    refine ⟨_, rfl, t, _, rfl, .inr (.inl (.inl ht)), rfl, _, rfl, ?_⟩
    rw [List.length_map, show (2 : Int) = ((2 : Nat) : Int) from rfl, dec_int]
    by_cases c : b.length = 2
    · rw [decide_eq_true c] at q ⊢
      rw [Bool.true_and] at q
      refine iteT ⟨_, rfl, t, _, 0, .int (co b 0), rfl, rfl, .inl (.inl ht), (at_co (k := 0) (by omega)), _, rfl, _, _, rfl, rfl, _, rfl, ?_⟩
      by_cases c1 : co b 0 < n
      · rw [decide_eq_true c1]
        refine iteT ⟨_, rfl, t, _, 1, .int (co b 1), rfl, rfl, .inl (.inl ht), (at_co (k := 1) (by omega)), _, _, rfl, rfl, ?_⟩
        dsimp only
        rw [show decide (n ≤ co b 1) = decide (co b 0 < n ∧ n ≤ co b 1) from decide_eq_decide.mpr ⟨fun h => ⟨c1, h⟩, fun h => h.2⟩]
        exact q
      · rw [decide_eq_false c1]
        refine iteF ?_
        rw [decide_eq_false fun h => c1 h.1] at q
        exact q
    · rw [decide_eq_false c] at q ⊢
      exact iteF q
def spIsBlockSize : Sp := fun vs H Q _ => ∃ (z : Str) (k : Nat), vs = [.str z, .int k] ∧ Q (.bl (sizeOk z k)) H
theorem ok_is_block_size_ {f : Addr} {fd : FuncData} (F : Fun K "_is_block_size" "_is_block_size" s_is_block_size_ f fd) : FnOk P w K mg base CX0 1 f fd ["family", "size"] spIsBlockSize := by
  refine F.ok sc_is_block_size_ (fun vs H Q E h => ?_) (fun cdv A outer s H vs Q E hr h => ?_)
  · obtain ⟨z, k, rfl, _⟩ := h
    rfl
  · obtain ⟨z, k, rfl, q⟩ := h
    refine ⟨_, (pss_cons (ps_if (pt_cmpR op_eq (pv 0) pe_str (nomark _)) (pss_one (ps_ret (pe_cmpR op_eq (pv 1) pe_int (nomark _)))) pss_nil)
  (pss_cons (ps_if (pt_cmpR op_eq (pv 0) pe_str (nomark _)) (pss_one (ps_ret (pe_cmpR op_le (pv 1) pe_int (nomark _)))) pss_nil)
  (pss_cons (ps_if (pt_cmpR op_eq (pv 0) pe_str (nomark _)) (pss_one (ps_ret (pe_cmpR op_eq (pe_op op_mod (pv 1) pe_int) pe_int (nomark _)))) pss_nil)
  (pss_one (ps_ret pe_bl))))), ?_⟩
    unfold sizeOk at q
    refine ⟨_, rfl, rfl, _, rfl, ite2 (fun e => ?_) (fun e => ?_)⟩
    · rw [if_pos (V.str.inj (of_decide_eq_true e))] at q
      refine ⟨_, rfl, rfl, ?_⟩
      rw [show (2 : Int) = ((2 : Nat) : Int) from rfl, dec_int]
      exact q
    rw [if_neg fun z => e (decide_eq_true (congrArg V.str z))] at q
    refine ⟨_, rfl, rfl, _, rfl, ite2 (fun e => ?_) (fun e => ?_)⟩
    · rw [if_pos (V.str.inj (of_decide_eq_true e))] at q
      refine ⟨_, rfl, _, _, rfl, rfl, ?_⟩
      dsimp only
      rw [show decide ((k : Int) ≤ 2) = decide (k ≤ 2) from decide_eq_decide.mpr ⟨fun h => by omega, fun h => by omega⟩]
      exact q
    rw [if_neg fun z => e (decide_eq_true (congrArg V.str z))] at q
    refine ⟨_, rfl, rfl, _, rfl, ite2 (fun e => ?_) (fun e => ?_)⟩
    · rw [if_pos (V.str.inj (of_decide_eq_true e))] at q
      refine ⟨_, rfl, _, _, rfl, rfl, (show (0 : Int) < 2 by decide), rfl, ?_⟩
      have h : decide (V.int ((k : Int) % 2) = V.int 0) = decide (k % 2 = 0) := decide_eq_decide.mpr ⟨fun h => by have := V.int.inj h; omega, fun h => congrArg V.int (by omega)⟩
      dsimp only
      rw [h]
      exact q
    rw [if_neg fun z => e (decide_eq_true (congrArg V.str z))] at q
    exact q
def spIsBlockOf : Sp := fun vs H Q _ => ∃ (z : Str) (n : Int) (v : V) (b : List Int), vs = [.str z, .int n, v] ∧ TP H v b ∧ Q (.bl (blockOk z n b)) H
theorem ok_is_block_of_ {f a_is_strand_ a_is_block_size_ : Addr} {fd fd_is_strand_ fd_is_block_size_ : FuncData} (F : Fun K "_is_block_of" "_is_block_of" s_is_block_of_ f fd) (z_len : mg "len" = none)
    (G_is_strand_ : FnOk P w K mg base CX0 1 a_is_strand_ fd_is_strand_ ["n", "block"] spIsStrand) (g_is_strand_ : mg "_is_strand" = some (.ref a_is_strand_)) (k_is_strand_ : PySem.W.keepIn K (.ref a_is_strand_) = true) (b_is_strand_ : Binds K fd_is_strand_ ["n", "block"] [])
    (G_is_block_size_ : FnOk P w K mg base CX0 1 a_is_block_size_ fd_is_block_size_ ["family", "size"] spIsBlockSize) (g_is_block_size_ : mg "_is_block_size" = some (.ref a_is_block_size_)) (k_is_block_size_ : PySem.W.keepIn K (.ref a_is_block_size_) = true) (b_is_block_size_ : Binds K fd_is_block_size_ ["family", "size"] []) :
    FnOk P w K mg base CX0 2 f fd ["family", "n", "block"] spIsBlockOf := by
  refine F.ok sc_is_block_of_ (fun vs H Q E h => ?_) (fun cdv A outer s H vs Q E hr h => ?_)
  · obtain ⟨z, n, v, b, rfl, _⟩ := h
    rfl
  · obtain ⟨z, n, v, b, rfl, ⟨t, rfl, ht⟩, q⟩ := h
    refine ⟨_, (pss_cons (ps_if (pt_cmpR op_eq (pv 0) pe_str (nomark _)) (pss_one (ps_ret (pe_call G_is_strand_ (hr.mono (by decide)) rfl g_is_strand_ k_is_strand_ b_is_strand_ .nil pass0 (pa_cons (pv 1) (pa_cons (pv 2) pa_nil))))) pss_nil)
  (pss_cons (ps_if (pt_cmpR op_eq (pv 0) pe_str (nomark _)) (pss_one (ps_ret (pe_or (pe_cmpR op_eq (pe_callB call_len_seq (by rfl) z_len boot_len (pa_cons (pv 2) pa_nil)) pe_int (nomark _)) (pe_one (pe_call G_is_strand_ (hr.mono (by decide)) rfl g_is_strand_ k_is_strand_ b_is_strand_ .nil pass0 (pa_cons (pv 1) (pa_cons (pv 2) pa_nil))))))) pss_nil)
  (pss_one (ps_ret (pe_call G_is_block_size_ (hr.mono (by decide)) rfl g_is_block_size_ k_is_block_size_ b_is_block_size_ .nil pass0 (pa_cons (pv 0) (pa_cons (pe_callB call_len_seq (by rfl) z_len boot_len (pa_cons (pv 2) pa_nil)) pa_nil))))))), ?_⟩
    unfold blockOk at q
    refine ⟨_, rfl, rfl, _, rfl, ite2 (fun e => ?_) (fun e => ?_)⟩
    · rw [if_pos (V.str.inj (of_decide_eq_true e))] at q
      exact ⟨_, rfl, _, rfl, n, .ref t, b, rfl, ⟨t, rfl, ht⟩, q⟩
    rw [if_neg fun z => e (decide_eq_true (congrArg V.str z))] at q
    refine ⟨_, rfl, rfl, _, rfl, ite2 (fun e => ?_) (fun e => ?_)⟩
    · rw [if_pos (V.str.inj (of_decide_eq_true e))] at q
      refine ⟨_, rfl, t, _, rfl, .inr (.inl (.inl ht)), rfl, _, rfl, ?_⟩
      rw [List.length_map, show (1 : Int) = ((1 : Nat) : Int) from rfl, dec_int]
      by_cases c : b.length = 1
      · rw [decide_eq_true c] at q ⊢
        exact iteT q
      · rw [decide_eq_false c] at q ⊢
        rw [Bool.false_or] at q
        exact iteF ⟨_, rfl, _, rfl, n, .ref t, b, rfl, ⟨t, rfl, ht⟩, q⟩
    rw [if_neg fun z => e (decide_eq_true (congrArg V.str z))] at q
    refine ⟨_, rfl, _, rfl, t, _, rfl, .inr (.inl (.inl ht)), z, b.length, by rw [List.length_map]; rfl, q⟩
def spIsIn (CF CD : Addr) : Sp := fun vs H Q E => ∃ (z : Str) (v : V) (n m : Int) (bs : List (List Int)), vs = [.str z, v] ∧ DGv H v n m bs ∧ DgOk n m bs ∧ (z ∉ fams → E (.ref CF) none H) ∧ (z ∈ fams → ¬ IsDg n m bs → ∀ H', Same H H' → E (.ref CD) none H') ∧
  (z ∈ fams → IsDg n m bs → ∀ H', Same H H' → Q (.bl (inFam z n bs)) H')
theorem ok_is_in {f CF CD a_check_family a_check_diagram a_is_block_of_ : Addr} {fd fd_check_family fd_check_diagram fd_is_block_of_ : FuncData} (F : Fun K "is_in" "is_in" s_is_in f fd) (z_all : mg "all" = none)
    (G_check_family : FnOk P w K mg base (L2N.CX P w) 1 a_check_family fd_check_family ["family"] (spCheckFamily CF)) (g_check_family : mg "check_family" = some (.ref a_check_family)) (k_check_family : PySem.W.keepIn K (.ref a_check_family) = true) (b_check_family : Binds K fd_check_family ["family"] [])
    (G_check_diagram : FnOk P w K mg base (L2N.CX P w) 3 a_check_diagram fd_check_diagram ["diagram"] (spCheckDiagram CD)) (g_check_diagram : mg "check_diagram" = some (.ref a_check_diagram)) (k_check_diagram : PySem.W.keepIn K (.ref a_check_diagram) = true) (b_check_diagram : Binds K fd_check_diagram ["diagram"] [])
    (G_is_block_of_ : FnOk P w K mg base CX0 2 a_is_block_of_ fd_is_block_of_ ["family", "n", "block"] spIsBlockOf) (g_is_block_of_ : mg "_is_block_of" = some (.ref a_is_block_of_)) (k_is_block_of_ : PySem.W.keepIn K (.ref a_is_block_of_) = true) (b_is_block_of_ : Binds K fd_is_block_of_ ["family", "n", "block"] []) :
    FnOk P w K mg base (L2N.CX P w) 4 f fd ["family", "diagram"] (spIsIn CF CD) := by
  refine F.okXN sc_is_in (fun vs H Q E h => ?_) (fun cdv A outer s H vs Q E hr h => ?_)
  · obtain ⟨z, v, n, m, bs, rfl, _⟩ := h
    rfl
  · obtain ⟨z, v, n, m, bs, rfl, hv, hb, q1, q2, q3⟩ := h
    refine ⟨_, (pss_cons (ps_expr (pe_call G_check_family (hr.mono (by decide)) rfl g_check_family k_check_family b_check_family .nil (L2N.passes_call (L2N.takes_of rfl rfl rfl rfl) (fun _ _ _ _ h => h)) (pa_cons (pv 0) pa_nil)))
  (pss_cons (ps_expr (pe_call G_check_diagram (hr.mono (by decide)) rfl g_check_diagram k_check_diagram b_check_diagram .nil (L2N.passes_call (L2N.takes_of rfl rfl rfl rfl) (fun _ _ _ _ h => h)) (pa_cons (pv 1) pa_nil)))
  (pss_cons (ps_asg (pv 1) (pg_tup rfl (pgs_cons (pg_name (i := 2) sc_is_in.nd rfl (.inr rfl)) (pgs_cons (pg_name (i := 3) sc_is_in.nd rfl (.inl rfl)) (pgs_cons (pg_name (i := 4) sc_is_in.nd rfl (.inl rfl)) pgs_nil)))))
  (pss_one (ps_ret (pe_callB (cr_all rfl) (by rfl) z_all boot_all (pa_cons (pe_lc (own := [("block", 5)]) rfl sc_is_in.nd (pi_tup (pv 4)) (blkOk_by (N := ["family", "diagram", "n", "_", "blocks", "block"]) (sc := defScope s_is_in) (by first | decide +kernel | rfl)) (fun _ _ _ _ _ => (pg_name (i := 5) sc_is_in.nd rfl (.inl rfl))) (fun _ _ _ _ _ => pts_nil) (fun _ _ _ _ _ => (pe_call G_is_block_of_ (hr.mono (by decide)) rfl g_is_block_of_ k_is_block_of_ b_is_block_of_ .nil pass0 (pa_cons (pv 0) (pa_cons (pv 2) (pa_cons (pv 5) pa_nil)))))) pa_nil))))))), ?_⟩
    have szl : 20000 ≤ sizeLine := by decide
    refine ⟨_, rfl, z, rfl, fun mz => ?_, fun nz => q1 nz⟩
    refine ⟨_, rfl, v, n, m, bs, rfl, hv, hb, fun H1 s1 => ⟨fun dg => ?_, fun nd => q2 mz nd H1 s1⟩⟩
    obtain ⟨t, vb, rfl, ht, tb, ts, rfl, htb, pr⟩ := DGv.same s1 hv
    have lts : ts.length = bs.length := pr.length
    have few := dg.few
    refine ⟨_, rfl, t, _, rfl, .inl (.inl ht), rfl, _, _, rfl, _, _, rfl, _, _, rfl, rfl, ?_⟩
    refine ⟨_, rfl, tb, rfl, ⟨_, .inl (.inl htb)⟩, fun D nD => ?_⟩
    have keep : ∀ {H' : Hp} {a : Addr} {o : HO}, SameBut D H1 H' → H1 a = some o → H' a = some o := fun sb e => sb _ _ (ne_of_none e nD) e
    refine lc_it walk_tup (fun i H' => SameBut D H1 H' ∧ H' D = some (.lst (((bs.take i).map (blockOk z n)).map V.bl))) ⟨SameBut.upd, upd_same⟩ (fun i H' _ hP => .inl (.inl (keep hP.1 htb))) (fun i y H5 H6 hi hP hy => ?_) (fun H5 hP => ?_)
    · obtain ⟨sb, hD⟩ := hP
      obtain ⟨e0, hy⟩ := hy
      subst e0
      obtain ⟨b, eb, a, rfl, ha⟩ := tt_get pr hy
      refine ⟨rfl, ?_⟩
      refine ⟨_, rfl, _, rfl, _, rfl, z, n, .ref a, b, rfl, ⟨a, rfl, keep sb ha⟩, _, hD, by rw [List.length_map, List.length_map, List.length_take]; have := few.1; omega, sb.trans SameBut.upd, ?_⟩
      rw [upd_same, List.take_succ, eb, List.map_append, List.map_append]
      rfl
    obtain ⟨sb, hD⟩ := hP
    rw [lts, List.take_length] at hD
    have s5 : Same H1 H5 := fun b o e => keep sb e
    refine ⟨D, _, rfl, .inl (.inl hD), ?_⟩
    rw [show (bs.map (blockOk z n)).all id = inFam z n bs by unfold inFam; rw [List.all_map]; rfl]
    exact q3 mz dg H5 (Same.trans s1 s5)
end

theorem TP.butL {H H' : Hp} {r : Addr} {ys : List V} {v : V} {z : List Int} (hr : H r = some (.lst ys)) (s : SameBut r H H') (h : TP H v z) : TP H' v z := by
  obtain ⟨a, rfl, h⟩ := h
  exact ⟨a, rfl, s _ _ (ne_of h hr (fun z => nomatch z)) h⟩
theorem TT.butL {H H' : Hp} {r : Addr} {ys : List V} {v : V} {bs : List (List Int)} (hr : H r = some (.lst ys)) (s : SameBut r H H') (h : TT H v bs) : TT H' v bs := by
  obtain ⟨a, ts, rfl, h, pr⟩ := h
  exact ⟨a, ts, rfl, s _ _ (ne_of h hr (fun z => nomatch z)) h, Paired.mapP pr fun _ _ h => h.butL hr s⟩
theorem DGv.butL {H H' : Hp} {r : Addr} {ys : List V} {v : V} {n m : Int} {bs : List (List Int)} (hr : H r = some (.lst ys)) (s : SameBut r H H') (h : DGv H v n m bs) : DGv H' v n m bs := by
  obtain ⟨t, vb, rfl, h, tt⟩ := h
  exact ⟨t, vb, rfl, s _ _ (ne_of h hr (fun z => nomatch z)) h, tt.butL hr s⟩
/-- a diagram with these marks -/
def DgAt (H : Hp) (u : V) (n m : Int) (l : List Int) : Prop := DGv H u n m (blocksOf l) ∧ siz n m = true ∧ (l.length : Int) = n + m
theorem DgAt.dg {H : Hp} {u : V} {n m : Int} {l : List Int} (h : DgAt H u n m l) : IsDg n m (blocksOf l) := isDg_blocks h.2.1 h.2.2
theorem DgAt.ok {H : Hp} {u : V} {n m : Int} {l : List Int} (h : DgAt H u n m l) : DgOk n m (blocksOf l) := by
  have := siz_iff.mp h.2.1
  exact (h.dg.few.more (by decide)).ok (by omega) (by omega)
theorem DgAt.same {H H' : Hp} {u : V} {n m : Int} {l : List Int} (s : Same H H') (h : DgAt H u n m l) : DgAt H' u n m l := ⟨h.1.same s, h.2⟩
theorem DgAt.butL {H H' : Hp} {r : Addr} {ys : List V} {u : V} {n m : Int} {l : List Int} (hr : H r = some (.lst ys)) (s : SameBut r H H') (h : DgAt H u n m l) : DgAt H' u n m l := ⟨h.1.butL hr s, h.2⟩
theorem DgAt.ix {H : Hp} {t : Addr} {n m : Int} {l : List Int} (h : DgAt H (.ref t) n m l) : ∃ vb, H t = some (.tup [.int n, .int m, vb]) := by
  obtain ⟨⟨t', vb, e, h, _⟩, _⟩ := h
  obtain rfl := V.ref.inj e
  exact ⟨vb, h⟩
/-- the answer of a comparison is not computed -/
theorem bl_ex {b : Bool} {R : Bool → Prop} (h : R b) : ∃ k, V.bl b = V.bl k ∧ R k := ⟨b, rfl, h⟩
theorem smL_dL {z : List Int} {B : Nat} (h : ∀ x ∈ z, x.natAbs < 2 ^ 200) (hB : z.length ≤ B) : SmL 1 (1923 * B + 3) (dL z) := by
  have e := smL_list (ds := z.map PyData.int) (n := 0) (k := 1921) fun D hD => by
    obtain ⟨a, ha, rfl⟩ := List.mem_map.mp hD
    exact smL_int (h a ha)
  rw [List.length_map] at e
  exact e.more (by show 1923 * z.length + 3 ≤ 1923 * B + 3; omega)
theorem labL_mem {bs : List (List Int)} {N : Nat} : ∀ x ∈ labL bs N, 0 ≤ x ∧ x ≤ (bs.length : Int) := by
  have run : ∀ (bs : List (List Int)) (k : Nat) (ms : List Int) (B : Int), ((k + bs.length : Nat) : Int) ≤ B → (∀ x ∈ ms, 0 ≤ x ∧ x ≤ B) → ∀ x ∈ labFrom bs k ms, 0 ≤ x ∧ x ≤ B := by
    intro bs
    induction bs with
    | nil => exact fun _ _ _ _ h => h
    | cons b bs ih =>
      intro k ms B hk h
      rw [List.length_cons] at hk
      refine ih (k + 1) _ B (by omega) ?_
      clear ih
      induction b generalizing ms with
      | nil => exact h
      | cons p b ih2 =>
        refine ih2 _ fun x hx => ?_
        rcases List.mem_or_eq_of_mem_set hx with hx | rfl
        · exact h x hx
        · omega
  exact run bs 0 _ _ (by omega) fun x hx => by
    have := List.eq_of_mem_replicate hx
    omega
theorem smL_lab {n m : Int} {bs : List (List Int)} (h : IsDg n m bs) : SmL 1 25000 (dL (labL bs (n + m).toNat)) := by
  have hs := siz_iff.mp h.sz
  have f := h.few.1
  refine (smL_dL (B := 12) (fun x hx => ?_) (by rw [labL_len]; omega)).more (by decide)
  have := labL_mem x hx
  have : (12 : Nat) < 2 ^ 200 := by decide
  omega
theorem smL_dg {n m : Int} {bs : List (List Int)} (h : IsDg n m bs) : SmL 3 1000000 (dDG n m bs) := by
  have hs := siz_iff.mp h.sz
  have f := h.few
  have big : (12 : Nat) < 2 ^ 200 := by decide
  have e1 := smL_tuple (n := 1) (k := 25002) (ds := bs.map dT) fun D hD => by
    obtain ⟨b, hb, rfl⟩ := List.mem_map.mp hD
    refine (dT_small (z := b) fun k => ?_).more (by have := f.2 b hb; omega)
    rcases Nat.lt_or_ge k b.length with c | c
    · have := dg_pt h hb (co_mem c)
      omega
    · rw [co_ge c]
      decide
  rw [List.length_map] at e1
  have e1 : SmL 2 310000 (dTT bs) := e1.more (by have := f.1; omega)
  have e2 := smL_tuple (n := 2) (k := 310000) (ds := [.int n, .int m, dTT bs]) fun D hD => by
    have up : ∀ {x : Int}, x.natAbs < 2 ^ 200 → SmL 2 310000 (.int x) := fun hx => by
      obtain ⟨h1, h2, h3, h4⟩ := smL_int hx
      exact ⟨h1, Nat.le_trans h2 (by decide), h3, Nat.le_trans h4 (by decide)⟩
    rcases List.mem_cons.mp hD with rfl | hD
    · exact up (by omega)
    · rcases List.mem_cons.mp hD with rfl | hD
      · exact up (by omega)
      · rw [List.mem_singleton.mp hD]
        exact e1
  exact e2.more (by show (310000 + 2) * 3 + 3 ≤ 1000000; decide)
theorem few_pow {x : Int} (h : 0 ≤ x ∧ x ≤ 1000) : x.natAbs < 2 ^ 64 := by
  have : (1000 : Nat) < 2 ^ 64 := by decide
  omega

/-! ### counted, from the sizes of blocks -/
open PySem.W (mcComb)
def vz (z : Str) : Nat := if z = "pairs" then 0 else if z = "lonepairs" then 1 else if z = "even" then 2 else 3
def sv (v k : Nat) : Bool := if v = 0 then decide (k = 2) else if v = 1 then decide (k ≤ 2) else if v = 2 then decide (k % 2 = 0) else true
theorem sizeOk_v (z : Str) (k : Nat) : sizeOk z k = sv (vz z) k := by
  unfold sizeOk vz sv
  repeat' split
  all_goals first | rfl | omega
theorem vz_lt (z : Str) : vz z < 4 := by
  unfold vz
  repeat' split
  all_goals omega
def lastT (z : Nat) (cs : List Int) (k j : Nat) : List Int := if sv z (j + 1) = true then [mcComb (k : Int) (j : Int) * co cs (k - j)] else []
def lastL (z : Nat) (cs : List Int) (k : Nat) : Nat → List Int
  | 0 => []
  | j + 1 => lastL z cs k j ++ lastT z cs k j
def sumZ (l : List Int) : Int := l.sum
def cbl (z : Nat) : Nat → List Int
  | 0 => [1]
  | k + 1 => cbl z k ++ [sumZ (lastL z (cbl z k) k (k + 1))]
theorem cbl_len (z : Nat) : ∀ k, (cbl z k).length = k + 1
  | 0 => rfl
  | k + 1 => by
    show (cbl z k ++ [_]).length = _
    rw [List.length_append, cbl_len z k]
    rfl
theorem lastL_len (z : Nat) (cs : List Int) (k : Nat) : ∀ j, (lastL z cs k j).length ≤ j
  | 0 => Nat.le_refl _
  | j + 1 => by
    show (lastL z cs k j ++ lastT z cs k j).length ≤ _
    have := lastL_len z cs k j
    have : (lastT z cs k j).length ≤ 1 := by
      unfold lastT
      split
      · exact Nat.le_refl _
      · exact Nat.zero_le _
    rw [List.length_append]
    omega
theorem cbl_small : ∀ v, v < 4 → ∀ i, i ≤ 12 → ∀ x ∈ cbl v i, 0 ≤ x ∧ x ≤ 10000000 := by decide +kernel
theorem comb_small : ∀ i : Nat, i ≤ 12 → ∀ j : Nat, j ≤ 12 → 0 ≤ mcComb (i : Int) (j : Int) ∧ mcComb (i : Int) (j : Int) ≤ 1000 := by decide +kernel
section
variable {P : Program} {w : World} {K : PySem.W.Frag} {mg : Str → Option Value} {base : Heap}
def spLast : Sp := fun vs H Q _ => ∃ (z : Str) (N : Nat), vs = [.str z, .int N] ∧ N ≤ 12 ∧ ∀ H', Same H H' → Q (.int (co (cbl (vz z) N) N)) H'
theorem ok_counted_by_last_ {f a_is_block_size_ : Addr} {fd fd_is_block_size_ : FuncData} (F : Fun K "_counted_by_last" "_counted_by_last" s_counted_by_last_ f fd) (z_range : mg "range" = none) (z_sum : mg "sum" = none) (m_comb : mg "comb" = some (.builtin "math.comb"))
    (G_is_block_size_ : FnOk P w K mg base CX0 1 a_is_block_size_ fd_is_block_size_ ["family", "size"] spIsBlockSize) (g_is_block_size_ : mg "_is_block_size" = some (.ref a_is_block_size_)) (k_is_block_size_ : PySem.W.keepIn K (.ref a_is_block_size_) = true) (b_is_block_size_ : Binds K fd_is_block_size_ ["family", "size"] []) :
    FnOk P w K mg base CX0 2 f fd ["family", "size"] spLast := by
  refine F.ok sc_counted_by_last_ (fun vs H Q E h => ?_) (fun cdv A outer s H vs Q E hr h => ?_)
  · obtain ⟨z, N, rfl, _⟩ := h
    rfl
  · obtain ⟨z, N, rfl, hN, q⟩ := h
    refine ⟨_, (pss_cons (ps_set (i := 2) sc_counted_by_last_.nd rfl (.inr rfl) (pe_lst (pa_cons pe_int pa_nil)))
  (pss_cons (ps_for PassesOwn.never rfl (pi_range2 rfl z_range (pa_cons pe_int (pa_cons (pe_op op_add (pv 1) pe_int) pa_nil))) (pg_name (i := 3) sc_counted_by_last_.nd rfl (.inr rfl)) (pss_one (ps_expr (pe_bm PySem.F.plainAttrs_list PySem.F.slot_list_append PySem.F.type_list_append mt_append (pv 2) (pa_cons (pe_callB (cr_sum rfl) (by rfl) z_sum boot_sum (pa_cons (pe_lc (own := [("j", 4)]) rfl sc_counted_by_last_.nd (pi_range2 rfl z_range (pa_cons pe_int (pa_cons (pe_op op_add (pv 3) pe_int) pa_nil))) (blkOk_by (N := ["family", "size", "counts", "total", "j"]) (sc := defScope s_counted_by_last_) (by first | decide +kernel | rfl)) (fun _ _ _ _ _ => (pg_name (i := 4) sc_counted_by_last_.nd rfl (.inl rfl))) (fun _ _ _ _ _ => pts_one (pt_val (pe_call G_is_block_size_ (hr.mono (by decide)) rfl g_is_block_size_ k_is_block_size_ b_is_block_size_ .nil pass0 (pa_cons (pv 0) (pa_cons (pv 4) pa_nil))))) (fun _ _ _ _ _ => (pe_op op_mul (pe_callBfun cr_comb rfl m_comb (pa_cons (pe_op op_sub (pv 3) pe_int) (pa_cons (pe_op op_sub (pv 4) pe_int) pa_nil))) (pe_ix (ix_listK (K := K) rfl) (pv 2) (pe_op op_sub (pv 3) (pv 4)) (fun _ _ => rfl))))) pa_nil)) pa_nil)))))
  (pss_one (ps_ret (pe_ix ix_list (pv 2) (pv 1) (fun _ _ => rfl)))))), ?_⟩
    have szl : 20000 ≤ sizeLine := by decide
    refine ⟨(by show 1 ≤ sizeLine; omega), fun B nB => ?_⟩
    have s1 : Same H (upd H B (.lst [.int 1])) := same_upd nB
    have hB1 : upd H B (.lst [.int 1]) B = some (.lst ((cbl (vz z) 0).map V.int)) := upd_same
    have sb1 : SameBut B H (upd H B (.lst [.int 1])) := SameBut.upd
    clear s1
    revert hB1 sb1
    generalize upd H B (.lst [.int 1]) = H1
    intro hB1 sb1
    refine ⟨_, rfl, _, _, rfl, rfl, 1, _, rfl, by omega, ?_⟩
    rw [show ((N : Int) + 1 - 1).toNat = N by omega]
    refine for_range (lo := 1) (n := N) (fun i σ H' => ∃ (v3 : Option V), σ = [some (.str z), some (.int (N : Int)), some (.ref B), v3, none] ∧ SameBut B H H' ∧ H' B = some (.lst ((cbl (vz z) i).map V.int)))
      ⟨none, rfl, sb1, hB1⟩ (fun i σ H3 hi hP => ?_) (fun σ H3 hP => ?_)
    · obtain ⟨v3, rfl, sb, hB⟩ := hP
      have lc := cbl_len (vz z) i
      refine ⟨_, rfl, .inl ⟨rfl, _, .inl (.inl hB)⟩, _, rfl, _, _, rfl, rfl, 1, _, rfl, by omega, fun D nD => ?_⟩
      rw [show ((1 : Int) + (i : Int) + 1 - 1).toNat = i + 1 by omega]
      have hBD : B ≠ D := ne_of_none hB nD
      refine lc_range (lo := 1) (n := i + 1) (fun j H' => SameBut D H3 H' ∧ H' D = some (.lst ((lastL (vz z) (cbl (vz z) i) i j).map V.int))) ⟨SameBut.upd, upd_same⟩ (fun j H' hj hP => ?_) (fun H4 hP => ?_)
      · obtain ⟨sbD, hD⟩ := hP
        have hB' := sbD _ _ hBD hB
        refine ⟨rfl, ?_⟩
        refine ⟨_, rfl, _, rfl, z, j + 1, by rw [show (1 : Int) + (j : Int) = ((j + 1 : Nat) : Int) by omega]; rfl, _, rfl, ?_⟩
        rw [sizeOk_v]
        show if _ then _ else _
        by_cases c : sv (vz z) (j + 1) = true
        · have el : lastL (vz z) (cbl (vz z) i) i (j + 1) = lastL (vz z) (cbl (vz z) i) i j ++ [mcComb (i : Int) (j : Int) * co (cbl (vz z) i) (i - j)] := by
            show _ ++ lastT _ _ _ _ = _
            unfold lastT
            rw [if_pos c]
          have e1 : (1 : Int) + (i : Int) - 1 = (i : Int) := by omega
          have e2 : (1 : Int) + (j : Int) - 1 = (j : Int) := by omega
          have e3 : (1 : Int) + (i : Int) - (1 + (j : Int)) = ((i - j : Nat) : Int) := by omega
          obtain ⟨b1, b2⟩ := comb_small i (by omega) j (by omega)
          have ll := lastL_len (vz z) (cbl (vz z) i) i j
          refine if_pos_of c ⟨_, rfl, _, _, rfl, rfl, _, rfl, _, _, rfl, rfl, (i : Int), (j : Int), by show [V.int ((1 : Int) + (i : Int) - 1), V.int ((1 : Int) + (j : Int) - 1)] = _; rw [e1, e2], by omega, by omega, by omega, _, rfl, _, rfl, _, rfl, _, _, rfl, rfl, B, _, _, _, rfl, rfl, .inl (.inl hB'), by rw [e3]; exact at_co (by omega), _, _, rfl, rfl, .inl ⟨by omega, by omega⟩, _, hD, by rw [List.length_map]; omega, sbD.trans SameBut.upd, ?_⟩
          rw [upd_same, el, List.map_append]
          rfl
        · have el : lastL (vz z) (cbl (vz z) i) i (j + 1) = lastL (vz z) (cbl (vz z) i) i j := by
            show _ ++ lastT _ _ _ _ = _
            unfold lastT
            rw [if_neg c, List.append_nil]
          refine if_neg_of c ⟨sbD, ?_⟩
          rw [el]
          exact hD
      · obtain ⟨sbD, hD⟩ := hP
        have hB' := sbD _ _ hBD hB
        have sH : Same H3 H4 := fun b o e => sbD b o (ne_of_none e nD) e
        refine ⟨D, _, rfl, .inl (.inl hD), B, _, _, rfl, rfl, hB', by rw [List.length_map]; omega, ?_⟩
        refine ⟨_, rfl, (sb.trans (fun b o nb e => sH b o e)).trans SameBut.upd, ?_⟩
        rw [upd_same]
        show _ = some (HO.lst ((cbl (vz z) i ++ [sumZ (lastL (vz z) (cbl (vz z) i) i (i + 1))]).map V.int))
        rw [List.map_append]
        rfl
    · obtain ⟨v3, rfl, sb, hB⟩ := hP
      have lc := cbl_len (vz z) N
      exact ⟨_, rfl, _, rfl, B, _, _, _, rfl, rfl, .inl (.inl hB), at_co (by omega), q _ (fun b o e => sb b o (ne_of_none e nB) e)⟩
end

open PySem.W (mcComb)
/-! ### counted -/
def fac (k : Nat) : Int := ((Builtin.Math.factorialNat k : Nat) : Int)
def looseT (n m t : Nat) : Int := mcComb (n : Int) (t : Int) * mcComb (m : Int) (t : Int) * fac t
def looseL (n m : Nat) : Nat → List Int
  | 0 => []
  | t + 1 => looseL n m t ++ [looseT n m t]
def cntV (z : Str) (n m : Nat) : Int := if z = "threads" then (if n = m then fac n else 0) else if z = "loose" then sumZ (looseL n m (min n m + 1)) else co (cbl (vz z) (n + m)) (n + m)
theorem looseL_len (n m : Nat) : ∀ t, (looseL n m t).length = t
  | 0 => rfl
  | t + 1 => by
    show (looseL n m t ++ [_]).length = _
    rw [List.length_append, looseL_len n m t]
    rfl
theorem fac_small : ∀ k : Nat, k ≤ 12 → 0 ≤ fac k ∧ fac k ≤ 1000000000 := by decide +kernel
section
variable {P : Program} {w : World} {K : PySem.W.Frag} {mg : Str → Option Value} {base : Heap}
def spCounted (CF CB : Addr) : Sp := fun vs H Q E => ∃ (z : Str) (n m : Int), vs = [.str z, .int n, .int m] ∧ (z ∉ fams → E (.ref CF) none H) ∧ (z ∈ fams → siz n m = false → E (.ref CB) none H) ∧
  (z ∈ fams → siz n m = true → ∀ H', Same H H' → Q (.int (cntV z n.toNat m.toNat)) H')
theorem ok_counted {f CF CB a_check_family a_check_size_ a_counted_by_last_ : Addr} {fd fd_check_family fd_check_size_ fd_counted_by_last_ : FuncData} (F : Fun K "counted" "counted" s_counted f fd) (z_range : mg "range" = none) (z_sum : mg "sum" = none) (z_min : mg "min" = none) (m_comb : mg "comb" = some (.builtin "math.comb")) (m_factorial : mg "factorial" = some (.builtin "math.factorial"))
    (G_check_family : FnOk P w K mg base (L2N.CX P w) 1 a_check_family fd_check_family ["family"] (spCheckFamily CF)) (g_check_family : mg "check_family" = some (.ref a_check_family)) (k_check_family : PySem.W.keepIn K (.ref a_check_family) = true) (b_check_family : Binds K fd_check_family ["family"] [])
    (G_check_size_ : FnOk P w K mg base (L2N.CX P w) 2 a_check_size_ fd_check_size_ ["n", "m"] (spCheckSize CB)) (g_check_size_ : mg "_check_size" = some (.ref a_check_size_)) (k_check_size_ : PySem.W.keepIn K (.ref a_check_size_) = true) (b_check_size_ : Binds K fd_check_size_ ["n", "m"] [])
    (G_counted_by_last_ : FnOk P w K mg base CX0 2 a_counted_by_last_ fd_counted_by_last_ ["family", "size"] spLast) (g_counted_by_last_ : mg "_counted_by_last" = some (.ref a_counted_by_last_)) (k_counted_by_last_ : PySem.W.keepIn K (.ref a_counted_by_last_) = true) (b_counted_by_last_ : Binds K fd_counted_by_last_ ["family", "size"] []) :
    FnOk P w K mg base (L2N.CX P w) 3 f fd ["family", "n", "m"] (spCounted CF CB) := by
  refine F.okXN sc_counted (fun vs H Q E h => ?_) (fun cdv A outer s H vs Q E hr h => ?_)
  · obtain ⟨z, n, m, rfl, _⟩ := h
    rfl
  · obtain ⟨z, n, m, rfl, q1, q2, q3⟩ := h
    refine ⟨_, (pss_cons (ps_expr (pe_call G_check_family (hr.mono (by decide)) rfl g_check_family k_check_family b_check_family .nil (L2N.passes_call (L2N.takes_of rfl rfl rfl rfl) (fun _ _ _ _ h => h)) (pa_cons (pv 0) pa_nil)))
  (pss_cons (ps_expr (pe_call G_check_size_ (hr.mono (by decide)) rfl g_check_size_ k_check_size_ b_check_size_ .nil (L2N.passes_call (L2N.takes_of rfl rfl rfl rfl) (fun _ _ _ _ h => h)) (pa_cons (pv 1) (pa_cons (pv 2) pa_nil))))
  (pss_cons (ps_if (pt_cmpR op_eq (pv 0) pe_str (nomark _)) (pss_one (ps_ret (pe_ifExp (pt_cmpR op_eq (pv 1) (pv 2) (nomark _)) (pe_callBfun cr_fac rfl m_factorial (pa_cons (pv 1) pa_nil)) pe_int))) pss_nil)
  (pss_cons (ps_if (pt_cmpR op_eq (pv 0) pe_str (nomark _)) (pss_cons (ps_set (i := 3) sc_counted.nd rfl (.inl rfl) (pe_callB (call_min2 rfl) (by rfl) z_min boot_min (pa_cons (pv 1) (pa_cons (pv 2) pa_nil))))
  (pss_one (ps_ret (pe_callB (cr_sum rfl) (by rfl) z_sum boot_sum (pa_cons (pe_lc (own := [("t", 4)]) rfl sc_counted.nd (pi_range1 rfl z_range (pa_cons (pe_op op_add (pv 3) pe_int) pa_nil)) (blkOk_by (N := ["family", "n", "m", "most", "t"]) (sc := defScope s_counted) (by first | decide +kernel | rfl)) (fun _ _ _ _ _ => (pg_name (i := 4) sc_counted.nd rfl (.inl rfl))) (fun _ _ _ _ _ => pts_nil) (fun _ _ _ _ _ => (pe_op op_mul (pe_op op_mul (pe_callBfun cr_comb rfl m_comb (pa_cons (pv 1) (pa_cons (pv 4) pa_nil))) (pe_callBfun cr_comb rfl m_comb (pa_cons (pv 2) (pa_cons (pv 4) pa_nil)))) (pe_callBfun cr_fac rfl m_factorial (pa_cons (pv 4) pa_nil))))) pa_nil))))) pss_nil)
  (pss_one (ps_ret (pe_call G_counted_by_last_ (hr.mono (by decide)) rfl g_counted_by_last_ k_counted_by_last_ b_counted_by_last_ .nil pass0 (pa_cons (pv 0) (pa_cons (pe_op op_add (pv 1) (pv 2)) pa_nil))))))))), ?_⟩
    have szl : 20000 ≤ sizeLine := by decide
    refine ⟨_, rfl, z, rfl, fun mz => ?_, q1⟩
    refine ⟨_, rfl, _, rfl, n, m, rfl, fun hs => ?_, q2 mz⟩
    have q := q3 mz hs
    have zz := siz_iff.mp hs
    obtain ⟨n, rfl⟩ : ∃ u : Nat, n = (u : Int) := ⟨n.toNat, by omega⟩
    obtain ⟨m, rfl⟩ : ∃ u : Nat, m = (u : Int) := ⟨m.toNat, by omega⟩
    rw [show ((n : Nat) : Int).toNat = n from rfl, show ((m : Nat) : Int).toNat = m from rfl] at q
    unfold cntV at q
    refine ⟨_, rfl, rfl, _, rfl, ?_⟩
    by_cases c1 : z = "threads"
    · rw [if_pos c1] at q
      refine if_pos_of (decide_eq_true (congrArg V.str c1)) ?_
      refine ⟨_, rfl, _, rfl, rfl, _, rfl, ?_⟩
      by_cases c2 : n = m
      · rw [if_pos c2] at q
        exact if_pos_of (decide_eq_true (by rw [c2])) ⟨_, rfl, (n : Int), rfl, by omega, by omega, q H (Same.refl _)⟩
      · rw [if_neg c2] at q
        exact if_neg_of (fun h => c2 (by have := V.int.inj (of_decide_eq_true h); omega)) (q H (Same.refl _))
    rw [if_neg c1] at q
    refine if_neg_of (fun h => c1 (V.str.inj (of_decide_eq_true h))) ?_
    refine ⟨_, rfl, rfl, _, rfl, ?_⟩
    by_cases c2 : z = "loose"
    · rw [if_pos c2] at q
      refine if_pos_of (decide_eq_true (congrArg V.str c2)) ?_
      have em : (if ((m : Nat) : Int) < ((n : Nat) : Int) then ((m : Nat) : Int) else ((n : Nat) : Int)) = ((min n m : Nat) : Int) := by
        split <;> omega
      refine ⟨_, rfl, _, rfl, _, _, rfl, ?_⟩
      rw [em]
      refine ⟨_, rfl, _, _, rfl, rfl, _, rfl, by omega, by omega, fun D nD => ?_⟩
      rw [show (((min n m : Nat) : Int) + 1).toNat = min n m + 1 by omega]
      refine lc_range (lo := 0) (n := min n m + 1) (fun t H' => SameBut D H H' ∧ H' D = some (.lst ((looseL n m t).map V.int))) ⟨SameBut.upd, upd_same⟩ (fun t H' ht hP => ?_) (fun H4 hP => ?_)
      · obtain ⟨sbD, hD⟩ := hP
        have e0 : (0 : Int) + (t : Int) = (t : Int) := Int.zero_add _
        have c1 := comb_small n (by omega) t (by omega)
        have c2 := comb_small m (by omega) t (by omega)
        have c3 := fac_small t (by omega)
        have ll := looseL_len n m t
        refine ⟨rfl, ?_⟩
        rw [e0]
        refine ⟨_, rfl, _, rfl, (n : Int), (t : Int), rfl, by omega, by omega, by omega, _, rfl, _, rfl, (m : Int), (t : Int), rfl, by omega, by omega, by omega, _, _, rfl, rfl, .inl ⟨by omega, by omega⟩, _, rfl, (t : Int), rfl, by omega, by omega, _, _, rfl, rfl, .inr ⟨by show _ < fac t; omega, by show fac t < _; omega⟩, _, hD, by rw [List.length_map]; omega, sbD.trans SameBut.upd, ?_⟩
        rw [upd_same]
        show _ = some (HO.lst ((looseL n m t ++ [looseT n m t]).map V.int))
        rw [List.map_append]
        rfl
      · obtain ⟨sbD, hD⟩ := hP
        exact ⟨D, _, rfl, .inl (.inl hD), q _ (fun b o e => sbD b o (ne_of_none e nD) e)⟩
    rw [if_neg c2] at q
    refine if_neg_of (fun h => c2 (V.str.inj (of_decide_eq_true h))) ?_
    exact ⟨_, rfl, _, rfl, _, rfl, _, _, rfl, rfl, z, n + m, rfl, by omega, q⟩
end

/-! ### _may_follow -/
def mayF (z : Str) (n : Int) (row : List Int) (mark : Int) : Bool :=
  if row.count mark = 0 then true else if z = "even" ∨ z = "parts" then true else if 1 < row.count mark then false else if z = "pairs" ∨ z = "lonepairs" then true else decide ((row.idxOf mark : Int) < n) && decide (n ≤ (row.length : Int))
section
variable {P : Program} {w : World} {K : PySem.W.Frag} {mg : Str → Option Value} {base : Heap}
def spMay (K : PySem.W.Frag) : Sp := fun vs H Q _ => ∃ (z : Str) (n : Int) (p : Addr) (row : List Int) (mark : Int), vs = [.str z, .int n, .ref p, .int mark] ∧ SqL K H p (row.map V.int) ∧ ∀ H', Same H H' → Q (.bl (mayF z n row mark)) H'
theorem ok_may_follow_ {f : Addr} {fd : FuncData} (F : Fun K "_may_follow" "_may_follow" s_may_follow_ f fd) (z_len : mg "len" = none) : FnOk P w K mg base CX0 1 f fd ["family", "n", "row", "mark"] (spMay K) := by
  refine F.ok sc_may_follow_ (fun vs H Q E h => ?_) (fun cdv A outer s H vs Q E hr h => ?_)
  · obtain ⟨z, n, p, row, mark, rfl, _⟩ := h
    rfl
  · obtain ⟨z, n, p, row, mark, rfl, hp, q⟩ := h
    refine ⟨_, (pss_cons (ps_set (i := 4) sc_may_follow_.nd rfl (.inl rfl) (pe_bm PySem.F.plainAttrs_list PySem.F.slot_list_count PySem.F.type_list_count mt_lcount (pv 2) (pa_cons (pv 3) pa_nil)))
  (pss_cons (ps_if (L2.PW.pt (pw_or (pt_cmpR op_eq (pv 4) pe_int (nomark _)) (pw_or1 (pt_cmpR op_in_seq (pv 0) (pe_tup (pa_cons pe_str (pa_cons pe_str pa_nil))) (by with_unfolding_all rfl))))) (pss_one (ps_ret pe_bl)) pss_nil)
  (pss_cons (ps_if (pt_cmpR op_gt (pv 4) pe_int (nomark _)) (pss_one (ps_ret pe_bl)) pss_nil)
  (pss_one (ps_ret (pe_or (pe_cmpR op_in_seq (pv 0) (pe_tup (pa_cons pe_str (pa_cons pe_str pa_nil))) (by with_unfolding_all rfl)) (pe_one (pe_chain op_lt op_le (pe_bm PySem.F.plainAttrs_list PySem.F.slot_list_index PySem.F.type_list_index mt_index (pv 2) (pa_cons (pv 3) pa_nil)) (pv 1) (pe_callB call_len_seq (by rfl) z_len boot_len (pa_cons (pv 2) pa_nil)))))))))), ?_⟩
    have szl : 20000 ≤ sizeLine := by decide
    unfold mayF at q
    refine ⟨_, rfl, .inl ⟨rfl, _, hp⟩, _, rfl, p, row, mark, rfl, rfl, hp, ?_⟩
    refine ⟨_, rfl, rfl, _, rfl, ?_⟩
    by_cases c0 : row.count mark = 0
    · rw [if_pos c0] at q
      exact if_pos_of (decide_eq_true (by rw [c0]; rfl)) (iteT (q H (Same.refl _)))
    rw [if_neg c0] at q
    refine if_neg_of (fun h => c0 (by have := V.int.inj (of_decide_eq_true h); omega)) ?_
    refine ⟨_, rfl, (by show 2 ≤ sizeLine; omega), fun t nt => ?_⟩
    have s1 := same_upd (o := .tup [.str "even", .str "parts"]) nt
    refine ⟨t, _, rfl, .inr (.inl (.inl upd_same)), rfl, rfl, _, rfl, ?_⟩
    have iv : ∀ x y : Str, inV (.str z) [.str x, .str y] = decide (z = x ∨ z = y) := fun x y => by
      rw [show ([.str x, .str y] : List V) = [x, y].map V.str from rfl, inV_str]
      exact decide_eq_decide.mpr (by simp)
    by_cases c1 : z = "even" ∨ z = "parts"
    · rw [if_pos c1] at q
      refine if_pos_of (by show inV (.str z) [.str "even", .str "parts"] = true; rw [iv]; exact decide_eq_true c1) ?_
      exact q _ s1
    rw [if_neg c1] at q
    refine if_neg_of (by show ¬ inV (.str z) [.str "even", .str "parts"] = true; rw [iv]; exact fun h => c1 (of_decide_eq_true h)) ?_
    refine ⟨_, rfl, _, _, rfl, rfl, _, rfl, ?_⟩
    by_cases c2 : 1 < row.count mark
    · rw [if_pos c2] at q
      exact if_pos_of (decide_eq_true (by omega)) (q _ s1)
    rw [if_neg c2] at q
    refine if_neg_of (fun h => c2 (by have := of_decide_eq_true h; omega)) ?_
    refine ⟨_, rfl, (by show 2 ≤ sizeLine; omega), fun t2 nt2 => ?_⟩
    have s2 := Same.trans s1 (same_upd (o := .tup [.str "pairs", .str "lonepairs"]) nt2)
    refine ⟨t2, _, rfl, .inr (.inl (.inl upd_same)), rfl, rfl, _, rfl, ?_⟩
    by_cases c3 : z = "pairs" ∨ z = "lonepairs"
    · rw [if_pos c3] at q
      refine if_pos_of (by show inV (.str z) [.str "pairs", .str "lonepairs"] = true; rw [iv]; exact decide_eq_true c3) ?_
      exact q _ s2
    rw [if_neg c3] at q
    refine if_neg_of (by show ¬ inV (.str z) [.str "pairs", .str "lonepairs"] = true; rw [iv]; exact fun h => c3 (of_decide_eq_true h)) ?_
    have hp2 := sqL_same s2 hp
    have hm : mark ∈ row := List.count_pos_iff.mp (by omega)
    have hj := List.idxOf_lt_length_of_mem hm
    have ej : row[row.idxOf mark]? = some mark := by rw [List.getElem?_eq_getElem hj, List.getElem_idxOf hj]
    have eqi : ∀ a b : Int, eqV (.int a) (.int b) = decide (a = b) := fun a b => by
      show (a == b) = _
      by_cases h : a = b
      · rw [decide_eq_true h, h]
        exact beq_self_eq_true b
      · rw [decide_eq_false h]
        exact beq_eq_false_iff_ne.mpr h
    refine ⟨_, rfl, .inl ⟨rfl, _, hp2⟩, _, rfl, p, _, .int mark, row.idxOf mark, .int mark, rfl, rfl, hp2, rfl, List.all_eq_true.mpr (fun v hv => by obtain ⟨w, _, rfl⟩ := List.mem_map.mp hv; rfl), by rw [List.getElem?_map, ej]; rfl, by rw [eqi]; exact decide_eq_true rfl, fun u z' hu hz => ?_, ?_⟩
    · obtain ⟨y, ey, rfl⟩ := map_int_get hz
      rw [eqi]
      refine decide_eq_false fun e => ?_
      have hul := (List.getElem?_eq_some_iff.mp ey)
      obtain ⟨h1, h2⟩ := hul
      have no := List.not_of_lt_findIdx (p := (· == mark)) (xs := row) hu
      have no : (row[u] == mark) = false := no
      rw [h2, e] at no
      exact absurd (beq_self_eq_true mark) (by rw [no]; exact Bool.false_ne_true)
    refine ⟨_, rfl, _, _, rfl, rfl, _, rfl, ?_⟩
    by_cases c4 : ((row.idxOf mark : Nat) : Int) < n
    · rw [decide_eq_true c4, Bool.true_and] at q
      refine if_pos_of (decide_eq_true c4) ⟨_, rfl, p, _, rfl, .inl hp2, _, _, rfl, rfl, ?_⟩
      rw [List.length_map]
      exact q _ s2
    · rw [decide_eq_false c4, Bool.false_and] at q
      exact if_neg_of (fun h => c4 (of_decide_eq_true h)) (q _ s2)
end

/-! ### _label_rows -/
def topL (l : List Int) : Int := l.foldr (fun x y => if x + 1 > y then x + 1 else y) 0
theorem topL_ge : ∀ {l : List Int} {x : Int}, x ∈ l → x + 1 ≤ topL l
  | a :: l, x, h => by
    unfold topL
    rw [List.foldr_cons]
    show _ ≤ if a + 1 > topL l then a + 1 else topL l
    rcases List.mem_cons.mp h with rfl | h
    · split <;> omega
    · have := topL_ge h
      split <;> omega
theorem topL_of : ∀ {l : List Int} {m : Int}, m ∈ l → (∀ y ∈ l, y ≤ m) → (∀ y ∈ l, 0 ≤ y) → topL l = m + 1
  | [a], m, h, _, h0 => by
    rcases List.mem_cons.mp h with rfl | h
    · have := h0 m h
      show (if m + 1 > 0 then m + 1 else 0) = m + 1
      rw [if_pos (by omega)]
    · exact nomatch h
  | a :: b :: l, m, h, hm, h0 => by
    have ha := hm a (.head _)
    have h0a := h0 a (.head _)
    show (if a + 1 > topL (b :: l) then a + 1 else topL (b :: l)) = m + 1
    by_cases c : m ∈ b :: l
    · rw [topL_of c (fun y hy => hm y (.tail _ hy)) (fun y hy => h0 y (.tail _ hy)), if_neg (by omega)]
    · rcases List.mem_cons.mp h with rfl | h
      · have lt : topL (b :: l) ≤ m := by
          have : ∀ {l : List Int}, (∀ y ∈ l, y < m) → 0 ≤ m → topL l ≤ m := by
            intro l
            induction l with
            | nil => intro _ h; exact h
            | cons x xs ih =>
              intro hx hm0
              have := ih (fun y hy => hx y (.tail _ hy)) hm0
              have := hx x (.head _)
              show (if x + 1 > topL xs then x + 1 else topL xs) ≤ m
              split <;> omega
          refine this (fun y hy => ?_) h0a
          have h1 := hm y (.tail _ hy)
          have : y ≠ m := fun e => c (e ▸ hy)
          omega
        rw [if_pos (by omega)]
      · exact absurd h c
theorem topL_pos : ∀ (l : List Int), 0 ≤ topL l
  | [] => Int.le_refl _
  | a :: l => by
    have := topL_pos l
    show 0 ≤ if a + 1 > topL l then a + 1 else topL l
    split <;> omega
theorem topL_snoc (l : List Int) (a : Int) : topL (l ++ [a]) = if a + 1 > topL l then a + 1 else topL l := by
  induction l with
  | nil => rfl
  | cons b l ih =>
    show (if b + 1 > topL (l ++ [a]) then b + 1 else topL (l ++ [a])) = if a + 1 > (if b + 1 > topL l then b + 1 else topL l) then a + 1 else (if b + 1 > topL l then b + 1 else topL l)
    rw [ih]
    repeat' split
    all_goals omega
def nextR (z : Str) (n : Int) (row : List Int) : Nat → List (List Int)
  | 0 => []
  | j + 1 => nextR z n row j ++ if mayF z n row (j : Int) = true then [row ++ [(j : Int)]] else []
def rowsF (z : Str) (n : Int) : Nat → List (List Int)
  | 0 => [[]]
  | k + 1 => ((rowsF z n k).map fun row => nextR z n row ((topL row).toNat + 1)).flatten
theorem nextR_in {z : Str} {n : Int} {row : List Int} : ∀ {j : Nat} {r : List Int}, r ∈ nextR z n row j → ∃ u : Nat, u < j ∧ r = row ++ [(u : Int)]
  | j + 1, r, h => by
    have h : r ∈ nextR z n row j ++ if mayF z n row (j : Int) = true then [row ++ [(j : Int)]] else [] := h
    rcases List.mem_append.mp h with h | h
    · obtain ⟨u, hu, e⟩ := nextR_in h
      exact ⟨u, Nat.lt_succ_of_lt hu, e⟩
    · split at h
      · exact ⟨j, Nat.lt_succ_self j, List.mem_singleton.mp h⟩
      · exact nomatch h
theorem nextR_len (z : Str) (n : Int) (row : List Int) : ∀ j, (nextR z n row j).length ≤ j
  | 0 => Nat.le_refl _
  | j + 1 => by
    have := nextR_len z n row j
    show (nextR z n row j ++ if mayF z n row (j : Int) = true then [row ++ [(j : Int)]] else []).length ≤ _
    rw [List.length_append]
    split
    · show _ + 1 ≤ _
      omega
    · show _ + 0 ≤ _
      omega
theorem rowsF_ok {z : Str} {n : Int} : ∀ {k : Nat} {row : List Int}, row ∈ rowsF z n k → row.length = k ∧ (∀ y ∈ row, 0 ≤ y) ∧ topL row ≤ (k : Int)
  | 0, row, h => by
    rw [List.mem_singleton.mp h]
    exact ⟨rfl, (fun y hy => nomatch hy), Int.le_refl _⟩
  | k + 1, row, h => by
    obtain ⟨l, hl, hr⟩ := List.mem_flatten.mp h
    obtain ⟨r0, h0, rfl⟩ := List.mem_map.mp hl
    obtain ⟨a1, a2, a3⟩ := rowsF_ok h0
    obtain ⟨u, hu, rfl⟩ := nextR_in hr
    have t0 := topL_pos r0
    refine ⟨by rw [List.length_append, a1]; rfl, fun y hy => ?_, ?_⟩
    · rcases List.mem_append.mp hy with hy | hy
      · exact a2 y hy
      · rw [List.mem_singleton.mp hy]
        omega
    · rw [topL_snoc]
      split <;> omega
def accF (z : Str) (n : Int) (l : List (List Int)) : List (List Int) := (l.map fun row => nextR z n row ((topL row).toNat + 1)).flatten
theorem accF_snoc (z : Str) (n : Int) (l : List (List Int)) (row : List Int) : accF z n (l ++ [row]) = accF z n l ++ nextR z n row ((topL row).toNat + 1) := by
  unfold accF
  rw [List.map_append, List.flatten_append]
  show _ ++ (_ ++ []) = _
  rw [List.append_nil]
theorem accF_take (z : Str) (n : Int) (l : List (List Int)) (i : Nat) : (accF z n (l.take i)).length ≤ (accF z n l).length := by
  conv => rhs; rw [← List.take_append_drop i l]
  unfold accF
  rw [List.map_append, List.flatten_append, List.length_append]
  omega
def RowP (D : Addr) (H : Hp) (p : V) (row : List Int) : Prop := ∃ a, p = .ref a ∧ a ≠ D ∧ H a = some (.lst (row.map V.int))
theorem rowP_but {D D' : Addr} {H H' : Hp} {x : V} {row : List Int} (sb : SameBut D' H H') (nd : H D' = none) (h : RowP D H x row) : RowP D' H' x row := by
  obtain ⟨a, rfl, _, ha⟩ := h
  have ne : a ≠ D' := ne_of_none ha nd
  exact ⟨a, rfl, ne, sb _ _ ne ha⟩
theorem rowP_keep {D : Addr} {H H' : Hp} {x : V} {row : List Int} (sb : SameBut D H H') (h : RowP D H x row) : RowP D H' x row := by
  obtain ⟨a, rfl, ne, ha⟩ := h
  exact ⟨a, rfl, ne, sb _ _ ne ha⟩
theorem paired_end {α β : Type} {F : α → β → Prop} : ∀ {l : List α} {m : List β} {x : α} {y : β}, Paired F l m → F x y → Paired F (l ++ [x]) (m ++ [y])
  | _, _, _, _, .nil, h => .cons h .nil
  | _, _, _, _, .cons a t, h => .cons a (paired_end t h)
theorem paired_at {α β : Type} {F : α → β → Prop} : ∀ {l : List α} {m : List β} {i : Nat} {x : α}, Paired F l m → l[i]? = some x → ∃ y, m[i]? = some y ∧ F x y
  | _, _, 0, _, .cons h _, e => by
    obtain rfl := Option.some.inj e
    exact ⟨_, rfl, h⟩
  | _, _, i + 1, _, .cons _ t, e => paired_at (i := i) t e
section
variable {P : Program} {w : World} {K : PySem.W.Frag} {mg : Str → Option Value} {base : Heap}
def spRows : Sp := fun vs H Q _ => ∃ (z : Str) (n : Int) (m N : Nat), vs = [.str z, .int n, .int m] ∧ n + m = (N : Int) ∧ N ≤ 12 ∧ (∀ k, k ≤ N → (rowsF z n k).length ≤ 10000) ∧
  ∀ (R : Addr) (ps : List V) (H' : Hp), Same H H' → H' R = some (.lst ps) → Paired (RowP R H') ps (rowsF z n N) → Q (.ref R) H'
theorem ok_label_rows_ {f a_may_follow_ : Addr} {fd fd_may_follow_ : FuncData} (F : Fun K "_label_rows" "_label_rows" s_label_rows_ f fd) (z_range : mg "range" = none) (z_max : mg "max" = none)
    (G_may_follow_ : FnOk P w K mg base CX0 1 a_may_follow_ fd_may_follow_ ["family", "n", "row", "mark"] (spMay K)) (g_may_follow_ : mg "_may_follow" = some (.ref a_may_follow_)) (k_may_follow_ : PySem.W.keepIn K (.ref a_may_follow_) = true) (b_may_follow_ : Binds K fd_may_follow_ ["family", "n", "row", "mark"] []) :
    FnOk P w K mg base CX0 2 f fd ["family", "n", "m"] spRows := by
  refine F.ok sc_label_rows_ (fun vs H Q E h => ?_) (fun cdv A outer s H vs Q E hr h => ?_)
  · obtain ⟨z, n, m, N, rfl, _⟩ := h
    rfl
  · obtain ⟨z, n, m, N, rfl, eN, hN, hsz, q⟩ := h
    refine ⟨_, (pss_cons (ps_set (i := 3) sc_label_rows_.nd rfl (.inl rfl) (pe_lst (pa_cons (pe_lst pa_nil) pa_nil)))
  (pss_cons (ps_for PassesOwn.never rfl (pi_range1 rfl z_range (pa_cons (pe_op op_add (pv 1) (pv 2)) pa_nil)) (pg_name (i := 4) sc_label_rows_.nd rfl (.inl rfl)) (pss_one (ps_setLc2 (i := 3) (own := [("row", 5), ("mark", 6)]) (vs1 := [6]) rfl sc_label_rows_.nd rfl rfl (sw_true rfl rfl rfl (by decide +kernel)) (pi_list (pv 3)) (blkOk_by (N := ["family", "n", "m", "rows", "_", "row", "mark"]) (sc := defScope s_label_rows_) (by decide +kernel)) (by decide) (fun _ _ _ _ _ => (pg_name (i := 5) sc_label_rows_.nd rfl (.inl rfl))) (fun _ _ _ _ _ => pts_nil) (fun _ _ _ _ _ => (pi_range1 rfl z_range (pa_cons (pe_op op_add (pe_callBK (cr_maxDef (K := K) rfl rfl (room64 hr)) (by rfl) z_max boot_max (pa_cons (pv 5) pa_nil) (pk_cons (pe_un un_neg pe_int) pk_nil)) pe_int) pa_nil))) (fun _ _ _ _ _ => (pg_name (i := 6) sc_label_rows_.nd rfl (.inl rfl))) (fun _ _ _ _ _ => pts_one (pt_val (pe_call G_may_follow_ (hr.mono (by decide)) rfl g_may_follow_ k_may_follow_ b_may_follow_ .nil pass0 (pa_cons (pv 0) (pa_cons (pv 1) (pa_cons (pv 5) (pa_cons (pv 6) pa_nil))))))) (fun _ _ _ _ _ => (pe_op op_cat (pv 5) (pe_lst (pa_cons (pv 6) pa_nil)))))))
  (pss_one (ps_ret (pv 3))))), ?_⟩
    have szl : 20000 ≤ sizeLine := by decide
    refine ⟨(by show 0 ≤ sizeLine; omega), fun e1 ne1 => ⟨(by show 1 ≤ sizeLine; omega), fun R0 nR0 => ?_⟩⟩
    have ne : e1 ≠ R0 := fun h => by
      rw [h, upd_same] at nR0
      exact nomatch nR0
    have s1 : Same H (upd (upd H e1 (.lst [])) R0 (.lst [.ref e1])) := Same.trans (same_upd ne1) (same_upd nR0)
    have pr1 : Paired (RowP R0 (upd (upd H e1 (.lst [])) R0 (.lst [.ref e1]))) [.ref e1] (rowsF z n 0) := .cons ⟨e1, rfl, ne, by rw [upd_ne ne, upd_same]; rfl⟩ .nil
    have hR1 : upd (upd H e1 (.lst [])) R0 (.lst [.ref e1]) R0 = some (.lst [.ref e1]) := upd_same
    revert s1 pr1 hR1
    generalize upd (upd H e1 (.lst [])) R0 (.lst [.ref e1]) = H1
    intro s1 pr1 hR1
    refine ⟨_, rfl, _, rfl, _, _, rfl, rfl, _, rfl, by show _ ≤ n + (m : Int); omega, by show n + (m : Int) < _; omega, ?_⟩
    rw [show (n + (m : Int)).toNat = N by omega]
    refine for_range (lo := 0) (n := N) (fun k σ H' => ∃ (R : Addr) (ps : List V) (v4 : Option V), σ = [some (.str z), some (.int n), some (.int m), some (.ref R), v4, none, none] ∧ Same H H' ∧ H' R = some (.lst ps) ∧ Paired (RowP R H') ps (rowsF z n k))
      ⟨R0, _, none, rfl, s1, hR1, pr1⟩ (fun k σ H3 hk hP => ?_) (fun σ H3 hP => ?_)
    · obtain ⟨R, ps, v4, rfl, s3, hR, pr⟩ := hP
      refine ⟨_, rfl, R, rfl, ⟨_, .inl (.inl hR)⟩, fun D nD => ?_⟩
      have hRD : R ≠ D := ne_of_none hR nD
      have tot := hsz (k + 1) (by omega)
      have tot : (accF z n (rowsF z n k)).length ≤ 10000 := tot
      refine walkD_list (xs := ps) (fun i H' => SameBut D H3 H' ∧ ∃ qs, H' D = some (.lst qs) ∧ Paired (RowP D H') qs (accF z n ((rowsF z n k).take i))) ⟨SameBut.upd, [], upd_same, .nil⟩ (fun i H' hP => .inl (.inl (hP.1 _ _ hRD hR))) (fun i x H4 hi hP => ?_) (fun H4 hP => ?_)
      · obtain ⟨sb, qs, hD, pq⟩ := hP
        obtain ⟨row, er, ax, rfl, nax, hax⟩ := paired_at pr hi
        obtain ⟨len, pos, top⟩ := rowsF_ok (List.mem_of_getElem? er)
        have et : (rowsF z n k).take (i + 1) = (rowsF z n k).take i ++ [row] := by rw [List.take_succ, er]; rfl
        have t0 := topL_pos row
        have aD : ax ≠ D := ne_of_none hax nD
        have ha4 := sb _ _ aD hax
        rw [et, accF_snoc]
        have atk := accF_take z n (rowsF z n k) i
        refine ⟨rfl, ?_⟩
        refine ⟨_, rfl, _, rfl, ax, row, -1, rfl, rfl, .inl (.inl ha4), fun e => ?_, fun mx hmx hge => ?_⟩
        · have em : topL row = (-1) + 1 := by rw [e]; rfl
          generalize (-1 : Int) = mx at em ⊢
          refine ⟨_, _, rfl, rfl, mx + 2, rfl, by omega, by omega, ?_⟩
          rw [show (mx + 2).toNat = (topL row).toNat + 1 by omega]
          refine walkD_range (lo := 0) (n := (topL row).toNat + 1) (fun j H' => SameBut D H3 H' ∧ ∃ qs, H' D = some (.lst qs) ∧ Paired (RowP D H') qs (accF z n ((rowsF z n k).take i) ++ nextR z n row j)) ⟨sb, qs, hD, by rw [show nextR z n row 0 = [] from rfl, List.append_nil]; exact pq⟩ (fun j H5 hj hP => ?_) (fun H5 hP => hP)
          obtain ⟨sb5, qs5, hD5, pq5⟩ := hP
          have ha5 := sb5 _ _ aD hax
          have nl := nextR_len z n row j
          refine ⟨rfl, ?_⟩
          rw [show (0 : Int) + (j : Int) = (j : Int) from Int.zero_add _]
          refine ⟨_, rfl, _, rfl, _, rfl, _, rfl, z, n, ax, row, (j : Int), rfl, .inl (.inl ha5), fun H6 s6 => ⟨_, rfl, ?_⟩⟩
          have keep : ∀ {H7 : Hp}, SameBut D H6 H7 → SameBut D H3 H7 := fun w => (sb5.trans (fun b o _ e => s6 b o e)).trans w
          have hD6 := s6 _ _ hD5
          have pq6 : Paired (RowP D H6) qs5 (accF z n ((rowsF z n k).take i) ++ nextR z n row j) := Paired.mapP pq5 fun _ _ h => rowP_keep (fun b o _ e => s6 b o e) h
          have ha6 := s6 _ _ ha5
          have lq : qs5.length ≤ 10020 := by
            rw [pq5.length, List.length_append]
            omega
          by_cases c : mayF z n row (j : Int) = true
          · have en : nextR z n row (j + 1) = nextR z n row j ++ [row ++ [(j : Int)]] := by
              show _ ++ (if _ then _ else _) = _
              rw [if_pos c]
            refine if_pos_of c ⟨_, rfl, _, rfl, (by show 1 ≤ sizeLine; omega), fun q1 nq1 => ?_⟩
            have w1 := same_upd (o := .lst [.int (j : Int)]) nq1
            refine ⟨_, _, _, _, rfl, rfl, w1 _ _ ha6, upd_same, by rw [List.length_map]; show _ + 1 ≤ _; omega, fun q2 nq2 => ?_⟩
            have w2 := Same.trans w1 (same_upd (o := .lst (row.map V.int ++ [.int (j : Int)])) nq2)
            have hq2 : upd (upd H6 q1 (.lst [.int (j : Int)])) q2 (.lst (row.map V.int ++ [.int (j : Int)])) q2 = some (.lst ((row ++ [(j : Int)]).map V.int)) := by rw [upd_same, List.map_append]; rfl
            have hD7 := w2 _ _ hD6
            have q2D : q2 ≠ D := fun e => by
              rw [e] at nq2
              exact nomatch nq2.symm.trans (w1 _ _ hD6)
            revert w2 hq2 hD7
            generalize upd (upd H6 q1 (.lst [.int (j : Int)])) q2 (.lst (row.map V.int ++ [.int (j : Int)])) = H7
            intro w2 hq2 hD7
            refine ⟨_, hD7, by omega, keep (fun b o nb e => SameBut.upd b o nb (w2 b o e)), _, upd_same, ?_⟩
            rw [en, ← List.append_assoc]
            exact paired_end (Paired.mapP pq6 fun _ _ h => rowP_keep (fun b o nb e => SameBut.upd b o nb (w2 b o e)) h) ⟨q2, rfl, q2D, SameBut.upd _ _ q2D hq2⟩
          · have en : nextR z n row (j + 1) = nextR z n row j := by
              show _ ++ (if _ then _ else _) = _
              rw [if_neg c, List.append_nil]
            rw [en]
            exact if_neg_of c ⟨keep (fun b o _ e => e), qs5, hD6, pq6⟩
        · have em := topL_of hmx hge pos
          refine ⟨_, _, rfl, rfl, mx + 2, rfl, by omega, by omega, ?_⟩
          rw [show (mx + 2).toNat = (topL row).toNat + 1 by omega]
          refine walkD_range (lo := 0) (n := (topL row).toNat + 1) (fun j H' => SameBut D H3 H' ∧ ∃ qs, H' D = some (.lst qs) ∧ Paired (RowP D H') qs (accF z n ((rowsF z n k).take i) ++ nextR z n row j)) ⟨sb, qs, hD, by rw [show nextR z n row 0 = [] from rfl, List.append_nil]; exact pq⟩ (fun j H5 hj hP => ?_) (fun H5 hP => hP)
          obtain ⟨sb5, qs5, hD5, pq5⟩ := hP
          have ha5 := sb5 _ _ aD hax
          have nl := nextR_len z n row j
          refine ⟨rfl, ?_⟩
          rw [show (0 : Int) + (j : Int) = (j : Int) from Int.zero_add _]
          refine ⟨_, rfl, _, rfl, _, rfl, _, rfl, z, n, ax, row, (j : Int), rfl, .inl (.inl ha5), fun H6 s6 => ⟨_, rfl, ?_⟩⟩
          have keep : ∀ {H7 : Hp}, SameBut D H6 H7 → SameBut D H3 H7 := fun w => (sb5.trans (fun b o _ e => s6 b o e)).trans w
          have hD6 := s6 _ _ hD5
          have pq6 : Paired (RowP D H6) qs5 (accF z n ((rowsF z n k).take i) ++ nextR z n row j) := Paired.mapP pq5 fun _ _ h => rowP_keep (fun b o _ e => s6 b o e) h
          have ha6 := s6 _ _ ha5
          have lq : qs5.length ≤ 10020 := by
            rw [pq5.length, List.length_append]
            omega
          by_cases c : mayF z n row (j : Int) = true
          · have en : nextR z n row (j + 1) = nextR z n row j ++ [row ++ [(j : Int)]] := by
              show _ ++ (if _ then _ else _) = _
              rw [if_pos c]
            refine if_pos_of c ⟨_, rfl, _, rfl, (by show 1 ≤ sizeLine; omega), fun q1 nq1 => ?_⟩
            have w1 := same_upd (o := .lst [.int (j : Int)]) nq1
            refine ⟨_, _, _, _, rfl, rfl, w1 _ _ ha6, upd_same, by rw [List.length_map]; show _ + 1 ≤ _; omega, fun q2 nq2 => ?_⟩
            have w2 := Same.trans w1 (same_upd (o := .lst (row.map V.int ++ [.int (j : Int)])) nq2)
            have hq2 : upd (upd H6 q1 (.lst [.int (j : Int)])) q2 (.lst (row.map V.int ++ [.int (j : Int)])) q2 = some (.lst ((row ++ [(j : Int)]).map V.int)) := by rw [upd_same, List.map_append]; rfl
            have hD7 := w2 _ _ hD6
            have q2D : q2 ≠ D := fun e => by
              rw [e] at nq2
              exact nomatch nq2.symm.trans (w1 _ _ hD6)
            revert w2 hq2 hD7
            generalize upd (upd H6 q1 (.lst [.int (j : Int)])) q2 (.lst (row.map V.int ++ [.int (j : Int)])) = H7
            intro w2 hq2 hD7
            refine ⟨_, hD7, by omega, keep (fun b o nb e => SameBut.upd b o nb (w2 b o e)), _, upd_same, ?_⟩
            rw [en, ← List.append_assoc]
            exact paired_end (Paired.mapP pq6 fun _ _ h => rowP_keep (fun b o nb e => SameBut.upd b o nb (w2 b o e)) h) ⟨q2, rfl, q2D, SameBut.upd _ _ q2D hq2⟩
          · have en : nextR z n row (j + 1) = nextR z n row j := by
              show _ ++ (if _ then _ else _) = _
              rw [if_neg c, List.append_nil]
            rw [en]
            exact if_neg_of c ⟨keep (fun b o _ e => e), qs5, hD6, pq6⟩
      · obtain ⟨sb, qs, hD, pq⟩ := hP
        rw [pr.length, List.take_length] at pq
        exact ⟨D, qs, _, rfl, Same.trans s3 (fun b o e => sb b o (ne_of_none e nD) e), hD, pq⟩
    · obtain ⟨R, ps, v4, rfl, s3, hR, pr⟩ := hP
      exact ⟨_, rfl, q R ps H3 s3 hR pr⟩
end

/-! ### listed -/
def listF (z : Str) (n m : Nat) : List (List (List Int)) := if cntV z n m = 0 then [] else ((rowsF z (n : Int) (n + m)).map blocksOf).filter (inFam z (n : Int))
section
variable {P : Program} {w : World} {K : PySem.W.Frag} {mg : Str → Option Value} {base : Heap}
def spListed (CF CB CT : Addr) : Sp := fun vs H Q E => ∃ (z : Str) (n m : Int), vs = [.str z, .int n, .int m] ∧ (z ∉ fams → E (.ref CF) none H) ∧ (z ∈ fams → siz n m = false → E (.ref CB) none H) ∧
  (z ∈ fams → siz n m = true → (250 < cntV z n.toNat m.toNat → ∀ H', Same H H' → E (.ref CT) none H') ∧
    (cntV z n.toNat m.toNat ≤ 250 → (cntV z n.toNat m.toNat ≠ 0 → ∀ k, k ≤ n.toNat + m.toNat → (rowsF z n k).length ≤ 10000) ∧
      ∀ (L : Addr) (ps : List V) (H' : Hp), Same H H' → H' L = some (.lst ps) → Paired (fun v bs => DGv H' v n m bs) ps (listF z n.toNat m.toNat) → Q (.ref L) H'))
theorem ok_listed {f CF CB CT CD a_counted a_label_rows_ a_from_labels a_is_in : Addr} {fd fd_counted fd_label_rows_ fd_from_labels fd_is_in : FuncData} {tM : Tok} (F : Fun K "listed" "listed" s_listed f fd) (T : ErrC K mg "TooLarge" CT) (m_MOST_LISTED : mg "MOST_LISTED" = some (.int 250 tM))
    (G_counted : FnOk P w K mg base (L2N.CX P w) 3 a_counted fd_counted ["family", "n", "m"] (spCounted CF CB)) (g_counted : mg "counted" = some (.ref a_counted)) (k_counted : PySem.W.keepIn K (.ref a_counted) = true) (b_counted : Binds K fd_counted ["family", "n", "m"] [])
    (G_label_rows_ : FnOk P w K mg base CX0 2 a_label_rows_ fd_label_rows_ ["family", "n", "m"] spRows) (g_label_rows_ : mg "_label_rows" = some (.ref a_label_rows_)) (k_label_rows_ : PySem.W.keepIn K (.ref a_label_rows_) = true) (b_label_rows_ : Binds K fd_label_rows_ ["family", "n", "m"] [])
    (G_from_labels : FnOk P w K mg base (L2N.CX P w) 3 a_from_labels fd_from_labels ["n", "m", "marks"] (spFromLabels K CB)) (g_from_labels : mg "from_labels" = some (.ref a_from_labels)) (k_from_labels : PySem.W.keepIn K (.ref a_from_labels) = true) (b_from_labels : Binds K fd_from_labels ["n", "m", "marks"] [])
    (G_is_in : FnOk P w K mg base (L2N.CX P w) 4 a_is_in fd_is_in ["family", "diagram"] (spIsIn CF CD)) (g_is_in : mg "is_in" = some (.ref a_is_in)) (k_is_in : PySem.W.keepIn K (.ref a_is_in) = true) (b_is_in : Binds K fd_is_in ["family", "diagram"] []) :
    FnOk P w K mg base (L2N.CX P w) 5 f fd ["family", "n", "m"] (spListed CF CB CT) := by
  obtain ⟨gc_TooLarge, x_TooLarge, kc_TooLarge, bc_TooLarge, tc_TooLarge⟩ := T
  have r_MOST_LISTED : RelV (.int 250) (.int 250 tM) := ⟨_, rfl⟩
  refine F.okXN sc_listed (fun vs H Q E h => ?_) (fun cdv A outer s H vs Q E hr h => ?_)
  · obtain ⟨z, n, m, rfl, _⟩ := h
    rfl
  · obtain ⟨z, n, m, rfl, q1, q2, q3⟩ := h
    refine ⟨_, (pss_cons (ps_set (i := 3) sc_listed.nd rfl (.inl rfl) (pe_call G_counted (hr.mono (by decide)) rfl g_counted k_counted b_counted .nil (L2N.passes_call (L2N.takes_of rfl rfl rfl rfl) (fun _ _ _ _ h => h)) (pa_cons (pv 0) (pa_cons (pv 1) (pa_cons (pv 2) pa_nil)))))
  (pss_cons (ps_if (pt_cmpR op_gt (pv 3) (pe_glob rfl m_MOST_LISTED r_MOST_LISTED) (nomark _)) (pss_one (L2N.ps_raise rfl (L2N.takes_of rfl rfl rfl rfl) (L2N.pmk_own PySem.F.excBase_ValueError x_TooLarge gc_TooLarge kc_TooLarge (raises_own bc_TooLarge tc_TooLarge) rfl))) pss_nil)
  (pss_cons (ps_if (pt_cmpR op_eq (pv 3) pe_int (nomark _)) (pss_one (ps_ret (pe_lst pa_nil))) pss_nil)
  (pss_cons (ps_setLc (i := 4) (own := [("row", 5)]) rfl sc_listed.nd rfl rfl (sw_true rfl rfl rfl (by decide +kernel)) (pi_list (pe_call G_label_rows_ (hr.mono (by decide)) rfl g_label_rows_ k_label_rows_ b_label_rows_ .nil pass0 (pa_cons (pv 0) (pa_cons (pv 1) (pa_cons (pv 2) pa_nil))))) (blkOk_by (N := ["family", "n", "m", "many", "found", "row", "diagram"]) (sc := defScope s_listed) (by first | decide +kernel | rfl)) (fun _ _ _ _ _ => (pg_name (i := 5) sc_listed.nd rfl (.inl rfl))) (fun _ _ _ _ _ => pts_nil) (fun _ _ _ _ _ => (pe_call G_from_labels (hr.mono (by decide)) rfl g_from_labels k_from_labels b_from_labels .nil passLN (pa_cons (pv 1) (pa_cons (pv 2) (pa_cons (pv 5) pa_nil))))))
  (pss_one (ps_ret (pe_lc (own := [("diagram", 6)]) rfl sc_listed.nd (pi_list (pv 4)) (blkOk_by (N := ["family", "n", "m", "many", "found", "row", "diagram"]) (sc := defScope s_listed) (by first | decide +kernel | rfl)) (fun _ _ _ _ _ => (pg_name (i := 6) sc_listed.nd rfl (.inl rfl))) (fun _ _ _ _ _ => pts_one (pt_val (pe_call G_is_in (hr.mono (by decide)) rfl g_is_in k_is_in b_is_in .nil passLN (pa_cons (pv 0) (pa_cons (pv 6) pa_nil))))) (fun _ _ _ _ _ => (pv 6))))))))), ?_⟩
    have szl : 20000 ≤ sizeLine := by decide
    refine ⟨_, rfl, _, rfl, _, rfl, z, n, m, rfl, q1, q2, fun mz hs H1 s1 => ?_⟩
    obtain ⟨q4, q5⟩ := q3 mz hs
    have zz := siz_iff.mp hs
    generalize ec : cntV z n.toNat m.toNat = c at q4 q5
    refine ⟨_, rfl, _, _, rfl, rfl, _, rfl, ?_⟩
    by_cases c1 : c > 250
    · exact if_pos_of (decide_eq_true c1) (q4 c1 H1 s1)
    refine if_neg_of (fun h => c1 (of_decide_eq_true h)) ?_
    obtain ⟨hsz, q⟩ := q5 (by omega)
    refine ⟨_, rfl, rfl, _, rfl, ?_⟩
    unfold listF at q
    rw [ec] at q
    by_cases c0 : c = 0
    · rw [if_pos c0] at q
      exact if_pos_of (decide_eq_true (by rw [c0])) ⟨(by show 0 ≤ sizeLine; omega), fun L nL => q L [] _ (Same.trans s1 (same_upd nL)) upd_same .nil⟩
    rw [if_neg c0] at q
    refine if_neg_of (fun h => c0 (V.int.inj (of_decide_eq_true h))) ?_
    obtain ⟨n, rfl⟩ : ∃ u : Nat, n = (u : Int) := ⟨n.toNat, by omega⟩
    obtain ⟨m, rfl⟩ : ∃ u : Nat, m = (u : Int) := ⟨m.toNat, by omega⟩
    rw [show ((n : Nat) : Int).toNat = n from rfl, show ((m : Nat) : Int).toNat = m from rfl] at q hsz
    have hsz := hsz c0
    refine ⟨_, rfl, _, rfl, _, rfl, z, n, m, n + m, rfl, by omega, by omega, hsz, fun R ps H2 s2 hR pr => ?_⟩
    have len1 := hsz (n + m) (Nat.le_refl _)
    have lps := pr.length
    generalize er : rowsF z (n : Int) (n + m) = rows at q pr len1 lps
    have each : ∀ row, row ∈ rows → (row.length : Int) = (n : Int) + (m : Int) := fun row h => by
      rw [← er] at h
      have := (rowsF_ok h).1
      omega
    refine ⟨R, rfl, ⟨_, .inl (.inl hR)⟩, fun D nD => ?_⟩
    have hRD : R ≠ D := ne_of_none hR nD
    refine lc_list (xs := ps) (fun i H' => SameBut D H2 H' ∧ ∃ ds, H' D = some (.lst ds) ∧ Paired (fun v bs => DGv H' v n m bs) ds ((rows.take i).map blocksOf)) ⟨SameBut.upd, [], upd_same, .nil⟩ (fun i H' hi hP => .inl (.inl (hP.1 _ _ hRD hR))) (fun i y H' hi hP => ?_) (fun H4 hP => ?_)
    · obtain ⟨sb, ds, hD, pd⟩ := hP
      obtain ⟨row, erow, ax, rfl, nax, hax⟩ := paired_at pr hi
      have aD : ax ≠ D := ne_of_none hax nD
      have lr := each row (List.mem_of_getElem? erow)
      have ld := pd.length
      rw [List.length_map, List.length_take] at ld
      refine ⟨rfl, ?_⟩
      refine ⟨_, rfl, _, rfl, _, rfl, n, m, ax, row, rfl, .inl (.inl (sb _ _ aD hax)), by omega, (fun z => by rw [hs] at z; exact nomatch z), fun _ => ⟨fun z => absurd lr z, fun _ v H5 s5 dv => ?_⟩⟩
      have hD5 := s5 _ _ hD
      refine ⟨_, hD5, by omega, (sb.trans (fun b o _ e => s5 b o e)).trans SameBut.upd, _, upd_same, ?_⟩
      rw [List.take_succ, erow, List.map_append]
      exact paired_end (Paired.mapP pd fun _ _ h => (h.same s5).butL hD5 SameBut.upd) (dv.butL hD5 SameBut.upd)
    · obtain ⟨sb, ds, hD, pd⟩ := hP
      rw [lps, List.take_length] at pd
      have s4 : Same H2 H4 := fun b o e => sb b o (ne_of_none e nD) e
      have lds := pd.length
      rw [List.length_map] at lds
      refine ⟨_, rfl, D, rfl, ⟨_, .inl (.inl hD)⟩, fun L nL => ?_⟩
      have hDL : D ≠ L := ne_of_none hD nL
      refine lc_list (xs := ds) (fun i H' => SameBut L H4 H' ∧ ∃ es, es.length ≤ i ∧ H' L = some (.lst es) ∧ Paired (fun v bs => DGv H' v n m bs) es (((rows.map blocksOf).take i).filter (inFam z (n : Int)))) ⟨SameBut.upd, [], Nat.le_refl _, upd_same, .nil⟩ (fun i H' hi hP => .inl (.inl (hP.1 _ _ hDL hD))) (fun i y H' hi hP => ?_) (fun H5 hP => ?_)
      · obtain ⟨sbL, es, le, hL, pe⟩ := hP
        obtain ⟨bs, ebs, dv⟩ := paired_at pd hi
        have keep : ∀ {v : V} {b : List (List Int)}, DGv H4 v n m b → DGv H' v n m b := fun {v b} h => h.same (fun b o e => sbL b o (ne_of_none e nL) e)
        obtain ⟨row, erow, rfl⟩ : ∃ row, row ∈ rows ∧ blocksOf row = bs := by
          obtain ⟨row, h1, h2⟩ := List.mem_map.mp (List.mem_of_getElem? ebs)
          exact ⟨row, h1, h2⟩
        have dA : DgAt H' y n m row := ⟨keep dv, hs, each row erow⟩
        have hil : i < ds.length := (List.getElem?_eq_some_iff.mp hi).1
        refine ⟨rfl, ?_⟩
        refine ⟨_, rfl, _, rfl, z, y, n, m, _, rfl, dA.1, dA.ok, (fun nz => absurd mz nz), (fun _ nd => absurd dA.dg nd), fun _ _ H6 s6 => ⟨_, rfl, ?_⟩⟩
        have hL6 := s6 _ _ hL
        have pe6 : Paired (fun v bs => DGv H6 v n m bs) es (((rows.map blocksOf).take i).filter (inFam z (n : Int))) := Paired.mapP pe fun _ _ h => h.same s6
        have sb6 : SameBut L H4 H6 := sbL.trans (fun b o _ e => s6 b o e)
        rw [List.take_succ, ebs, List.filter_append]
        by_cases ci : inFam z (n : Int) (blocksOf row) = true
        · have e1 : (some (blocksOf row)).toList.filter (inFam z (n : Int)) = [blocksOf row] := by
            show [blocksOf row].filter _ = _
            rw [List.filter_cons, if_pos ci]
            rfl
          rw [e1]
          refine if_pos_of ci ⟨_, rfl, _, hL6, by omega, sb6.trans SameBut.upd, _, by rw [List.length_append]; show _ + 1 ≤ _; omega, upd_same, ?_⟩
          exact paired_end (Paired.mapP pe6 fun _ _ h => h.butL hL6 SameBut.upd) ((dA.1.same s6).butL hL6 SameBut.upd)
        · have e1 : (some (blocksOf row)).toList.filter (inFam z (n : Int)) = [] := by
            show [blocksOf row].filter _ = _
            rw [List.filter_cons, if_neg ci]
            rfl
          rw [e1, List.append_nil]
          exact if_neg_of ci ⟨sb6, es, by omega, hL6, pe6⟩
      · obtain ⟨sbL, es, le, hL, pe⟩ := hP
        rw [show (rows.map blocksOf).take ds.length = rows.map blocksOf from by rw [lds, ← List.length_map (f := blocksOf), List.take_length]] at pe
        have s5 : Same H4 H5 := fun b o e => sbL b o (ne_of_none e nL) e
        exact q L es H5 (Same.trans s1 (Same.trans s2 (Same.trans s4 s5))) hL pe
end

/-! ### two diagrams compared -/
theorem eqvAll_dTs : ∀ bs cs : List (List Int), PyData.eqvAll (bs.map dT) (cs.map dT) = decide (bs = cs)
  | [], [] => by simp [PyData.eqvAll]
  | [], _ :: _ => by simp [PyData.eqvAll]
  | _ :: _, [] => by simp [PyData.eqvAll]
  | b :: bs, c :: cs => by
    rw [List.map_cons, List.map_cons]
    simp only [PyData.eqvAll, eqvAll_dTs bs cs, eqv_dT]
    by_cases h1 : b = c
    · by_cases h2 : bs = cs
      · simp [h1, h2]
      · simp [h2]
    · simp [h1]
theorem eqv_dg (n m n' m' : Int) (bs cs : List (List Int)) : PyData.eqv (dDG n m bs) (dDG n' m' cs) = decide (n = n' ∧ m = m' ∧ bs = cs) := by
  unfold dDG dTT
  simp only [PyData.eqv, PyData.eqvAll, eqvAll_dTs, Bool.and_true]
  by_cases h1 : n = n'
  · by_cases h2 : m = m'
    · by_cases h3 : bs = cs
      · simp [h1, h2, h3]
      · simp [h3]
    · simp [h2]
  · simp [h1]
/-- a list of diagrams -/
def dDgs (n m : Int) (ds : List (List (List Int))) : PyData := .list (ds.map (dDG n m))
theorem dgs_dp {K : PySem.W.Frag} {H : Hp} {n m : Int} : ∀ {vs : List V} {ds : List (List (List Int))}, Paired (fun v bs => DGv H v n m bs) vs ds → DpAll K H vs (ds.map (dDG n m))
  | _, _, .nil => .nil
  | _, _, .cons a b => .cons a.dp (dgs_dp b)
theorem wt_ints : ∀ b : List Int, wtAll (b.map PyData.int) = 1923 * b.length
  | [] => rfl
  | a :: b => by
    rw [List.map_cons, List.length_cons]
    simp only [wtAll, wt, wt_ints b]
    omega
theorem wt_dTs : ∀ bs : List (List Int), wtAll (bs.map dT) = 5 * bs.length + 1923 * bs.flatten.length
  | [] => rfl
  | b :: bs => by
    rw [List.map_cons, List.length_cons, List.flatten_cons, List.length_append]
    simp only [wtAll, dT, wt, wt_ints b]
    have := wt_dTs bs
    omega
theorem smL_dgW {n m : Int} {bs : List (List Int)} (h : IsDg n m bs) : SmL 3 27000 (dDG n m bs) := by
  have e := smL_dg h
  have z := siz_iff.mp h.sz
  have f := h.few.1
  have l := h.pm.length_eq
  rw [ixs_len] at l
  refine ⟨e.lay, e.dep, e.sho, ?_⟩
  unfold dDG dTT
  simp only [wt, wtAll, wt_dTs]
  omega
theorem smL_dgs {n m : Int} {ds : List (List (List Int))} {c : Nat} (h : ∀ d ∈ ds, IsDg n m d) (hc : ds.length ≤ c) : SmL 4 (27002 * c + 3) (dDgs n m ds) := by
  have e := smL_list (ds := ds.map (dDG n m)) (n := 3) (k := 27000) fun D hD => by
    obtain ⟨d, hd, rfl⟩ := List.mem_map.mp hD
    exact smL_dgW (h d hd)
  rw [List.length_map] at e
  exact ⟨e.lay, e.dep, e.sho, Nat.le_trans e.wgt (by have := Nat.mul_le_mul_left 27002 hc; omega)⟩

/-! ### slices of lists of integers -/
theorem cutI {l : List Int} (lo hi : Option Int) : cutV (l.map V.int) lo hi = ((l.drop (HT.sIx l.length 0 lo)).take (HT.sIx l.length l.length hi - HT.sIx l.length 0 lo)).map V.int := by
  unfold cutV
  rw [List.length_map, ← List.map_drop, ← List.map_take]
theorem cutI_to {l : List Int} {b : Int} (h0 : 0 ≤ b) (h : b ≤ l.length) : cutV (l.map V.int) none (some b) = (l.take b.toNat).map V.int := by
  obtain ⟨k, rfl⟩ := Int.eq_ofNat_of_zero_le h0
  rw [cutI, HT.sIx_none, HT.sIx_nat, Nat.min_eq_left (by omega), List.drop_zero, Nat.sub_zero]
  rfl
theorem cutI_from {l : List Int} {a : Int} (h0 : 0 ≤ a) (h : a ≤ l.length) : cutV (l.map V.int) (some a) none = (l.drop a.toNat).map V.int := by
  obtain ⟨k, rfl⟩ := Int.eq_ofNat_of_zero_le h0
  rw [cutI, HT.sIx_none, HT.sIx_nat, Nat.min_eq_left (by omega)]
  show ((l.drop k).take (l.length - k)).map V.int = (l.drop k).map V.int
  rw [← List.length_drop, List.take_length]
theorem cutI_mid {l : List Int} {a b : Int} (h0 : 0 ≤ a) (h1 : a ≤ b) (h : b ≤ l.length) : cutV (l.map V.int) (some a) (some b) = ((l.drop a.toNat).take (b.toNat - a.toNat)).map V.int := by
  obtain ⟨k, rfl⟩ := Int.eq_ofNat_of_zero_le h0
  obtain ⟨j, rfl⟩ := Int.eq_ofNat_of_zero_le (show 0 ≤ b by omega)
  rw [cutI, HT.sIx_nat, HT.sIx_nat, Nat.min_eq_left (by omega), Nat.min_eq_left (by omega)]
  rfl
theorem sIx_neg1 (n d : Nat) : HT.sIx n d (some (-1)) = n - 1 := by
  show (if (-1 : Int) < 0 then ((-1 : Int) + (n : Int)).toNat else min (-1 : Int).toNat n) = n - 1
  rw [if_pos (by decide)]
  omega
theorem cutI_last {l : List Int} : cutV (l.map V.int) (some (-1)) none = (l.drop (l.length - 1)).map V.int := by
  rw [cutI, HT.sIx_none, sIx_neg1]
  rw [← List.length_drop, List.take_length]
theorem cutI_but {l : List Int} {a : Int} (h0 : 0 ≤ a) (h : a ≤ l.length) : cutV (l.map V.int) (some a) (some (-1)) = ((l.drop a.toNat).take (l.length - 1 - a.toNat)).map V.int := by
  obtain ⟨k, rfl⟩ := Int.eq_ofNat_of_zero_le h0
  rw [cutI, HT.sIx_nat, sIx_neg1, Nat.min_eq_left (by omega)]
  rfl
/-- the labels of a diagram stand for the marks -/
theorem labs_map {n m : Int} {l : List Int} (hl : (l.length : Int) = n + m) : ∃ g : Int → Int, labL (blocksOf l) (n + m).toNat = l.map g ∧ ∀ x ∈ l, ∀ y ∈ l, g x = g y → x = y := by
  refine ⟨fun v => (((seenL [] l).idxOf v : Nat) : Int), ?_, fun x hx y hy h => idx_inj ((seenL_mem l [] x).mpr (.inr hx)) ((seenL_mem l [] y).mpr (.inr hy)) h⟩
  rw [show (n + m).toNat = l.length by omega]
  exact labL_marks l
/-- a choice of marks by their places -/
theorem blocks_sel {n m : Int} {l : List Int} (hl : (l.length : Int) = n + m) {sel : List Int → List Int} (hm : ∀ (g : Int → Int) (z : List Int), sel (z.map g) = (sel z).map g) (hs : ∀ x ∈ sel l, x ∈ l) : blocksOf (sel (labL (blocksOf l) (n + m).toNat)) = blocksOf (sel l) := by
  obtain ⟨g, e, inj⟩ := labs_map hl
  rw [e, hm]
  exact blocksOf_map fun x hx y hy h => inj x (hs x hx) y (hs y hy) h

/-! ### what is joined by links -/
inductive Conn (E : Nat → Nat → Prop) : Nat → Nat → Prop
  | rf (i : Nat) : Conn E i i
  | ed {i j : Nat} : E i j → Conn E i j
  | sy {i j : Nat} : Conn E i j → Conn E j i
  | tr {i j k : Nat} : Conn E i j → Conn E j k → Conn E i k
theorem Conn.map {E F : Nat → Nat → Prop} {f : Nat → Nat} (h : ∀ i j, E i j → Conn F (f i) (f j)) {i j : Nat} (c : Conn E i j) : Conn F (f i) (f j) := by
  induction c with
  | rf i => exact .rf _
  | ed e => exact h _ _ e
  | sy _ ih => exact .sy ih
  | tr _ _ a b => exact .tr a b
theorem Conn.mono {E F : Nat → Nat → Prop} (h : ∀ i j, E i j → Conn F i j) {i j : Nat} (c : Conn E i j) : Conn F i j := Conn.map (f := id) h c
/-- what all links keep -/
theorem Conn.keep {α : Type} {E : Nat → Nat → Prop} {g : Nat → α} (h : ∀ i j, E i j → g i = g j) {i j : Nat} (c : Conn E i j) : g i = g j := by
  induction c with
  | rf i => rfl
  | ed e => exact h _ _ e
  | sy _ ih => exact ih.symm
  | tr _ _ a b => exact a.trans b
def Bd (N : Nat) (E : Nat → Nat → Prop) : Prop := ∀ i j, E i j → i < N ∧ j < N
theorem Conn.bd {N : Nat} {E : Nat → Nat → Prop} (b : Bd N E) {i j : Nat} (c : Conn E i j) : i < N ↔ j < N := by
  induction c with
  | rf i => exact Iff.rfl
  | ed e => exact ⟨fun _ => (b _ _ e).2, fun _ => (b _ _ e).1⟩
  | sy _ ih => exact ih.symm
  | tr _ _ x y => exact x.trans y
/-- two have one mark exactly if they are joined -/
structure Ks (N : Nat) (l : List Int) (E : Nat → Nat → Prop) : Prop where
  len : l.length = N
  bd : Bd N E
  eq : ∀ i j, i < N → j < N → (co l i = co l j ↔ Conn E i j)
theorem Ks.congr {N : Nat} {l : List Int} {E F : Nat → Nat → Prop} (k : Ks N l E) (b : Bd N F) (h1 : ∀ i j, E i j → Conn F i j) (h2 : ∀ i j, F i j → Conn E i j) : Ks N l F :=
  ⟨k.len, b, fun i j hi hj => (k.eq i j hi hj).trans ⟨Conn.mono h1, Conn.mono h2⟩⟩
theorem ks_start (N : Nat) : Ks N (ixs N) fun _ _ => False := ⟨ixs_len' N, fun _ _ h => h.elim, fun i j hi hj => by
  rw [co_ixs hi, co_ixs hj]
  exact ⟨fun h => by rw [Int.ofNat.inj h]; exact .rf _, fun c => by rw [Conn.keep (g := fun i => i) (fun _ _ h => h.elim) c]⟩⟩
theorem ks_marks (l : List Int) : Ks l.length l fun i j => i < l.length ∧ j < l.length ∧ co l i = co l j :=
  ⟨rfl, fun _ _ h => ⟨h.1, h.2.1⟩, fun i j hi hj => ⟨fun h => .ed ⟨hi, hj, h⟩, fun c => Conn.keep (fun _ _ h => h.2.2) c⟩⟩
/-- two marks become one -/
theorem Ks.step {N : Nat} {l l' : List Int} {E : Nat → Nat → Prop} {x y : Nat} {u v : Int} (k : Ks N l E) (hx : x < N) (hy : y < N) (hl : l'.length = N)
    (uv : (u = co l y ∧ v = co l x) ∨ (u = co l x ∧ v = co l y)) (h : ∀ i, i < N → co l' i = if co l i = u then v else co l i) : Ks N l' fun i j => E i j ∨ (i = x ∧ j = y) := by
  have b : Bd N fun i j => E i j ∨ (i = x ∧ j = y) := fun i j h => h.elim (k.bd i j) fun ⟨e1, e2⟩ => by rw [e1, e2]; exact ⟨hx, hy⟩
  have up : ∀ {i j}, Conn E i j → Conn (fun i j => E i j ∨ (i = x ∧ j = y)) i j := fun c => c.mono fun _ _ h => .ed (.inl h)
  have xy : Conn (fun i j => E i j ∨ (i = x ∧ j = y)) x y := .ed (.inr ⟨rfl, rfl⟩)
  -- what has the mark u is joined to what has the mark v
  have uvc : ∀ i j, i < N → j < N → co l i = u → co l j = v → Conn (fun i j => E i j ∨ (i = x ∧ j = y)) i j := fun i j hi hj e1 e2 => by
    rcases uv with ⟨a, b⟩ | ⟨a, b⟩
    · have c1 := (k.eq i y hi hy).mp (by rw [e1, a])
      have c2 := (k.eq j x hj hx).mp (by rw [e2, b])
      exact (up c1).tr (xy.sy.tr (up c2).sy)
    · have c1 := (k.eq i x hi hx).mp (by rw [e1, a])
      have c2 := (k.eq j y hj hy).mp (by rw [e2, b])
      exact (up c1).tr (xy.tr (up c2).sy)
  refine ⟨hl, b, fun i j hi hj => ⟨fun e => ?_, fun c => ?_⟩⟩
  · rw [h i hi, h j hj] at e
    by_cases c1 : co l i = u
    · by_cases c2 : co l j = u
      · exact up ((k.eq i j hi hj).mp (c1.trans c2.symm))
      · rw [if_pos c1, if_neg c2] at e
        exact uvc i j hi hj c1 e.symm
    · by_cases c2 : co l j = u
      · rw [if_neg c1, if_pos c2] at e
        exact (uvc j i hj hi c2 e).sy
      · rw [if_neg c1, if_neg c2] at e
        exact up ((k.eq i j hi hj).mp e)
  · have one : ∀ i j, i < N → j < N → co l i = co l j → co l' i = co l' j := fun i j hi hj e => by rw [h i hi, h j hj, e]
    have both : co l' x = v ∧ co l' y = v := by
      rw [h x hx, h y hy]
      rcases uv with ⟨a, b⟩ | ⟨a, b⟩
      · rw [if_pos a.symm]
        refine ⟨?_, rfl⟩
        by_cases c : co l x = u
        · rw [if_pos c]
        · rw [if_neg c, b]
      · rw [if_pos a.symm]
        refine ⟨rfl, ?_⟩
        by_cases c : co l y = u
        · rw [if_pos c]
        · rw [if_neg c, b]
    have run : ∀ {i j}, Conn (fun i j => E i j ∨ (i = x ∧ j = y)) i j → i < N → co l' i = co l' j := fun {i j} c => by
      induction c with
      | rf i => exact fun _ => rfl
      | ed e =>
        intro hi
        rcases e with e | ⟨rfl, rfl⟩
        · have := k.bd _ _ e
          exact one _ _ this.1 this.2 ((k.eq _ _ this.1 this.2).mpr (.ed e))
        · exact both.1.trans both.2.symm
      | sy c ih => exact fun hi => (ih ((c.bd b).mpr hi)).symm
      | tr c _ ih1 ih2 => exact fun hi => (ih1 hi).trans (ih2 ((c.bd b).mp hi))
    exact run c hi
theorem co_map_lt {f : Int → Int} {l : List Int} {i : Nat} (h : i < l.length) : co (l.map f) i = f (co l i) := co_mapI f l h
/-- the program's way of joining: the second one's mark gives way -/
def uj (l : List Int) (x y : Nat) : List Int := l.map fun c => if c = co l y then co l x else c
theorem uj_len (l : List Int) (x y : Nat) : (uj l x y).length = l.length := List.length_map ..
theorem Ks.uj {N : Nat} {l : List Int} {E : Nat → Nat → Prop} {x y : Nat} (k : Ks N l E) (hx : x < N) (hy : y < N) : Ks N (uj l x y) fun i j => E i j ∨ (i = x ∧ j = y) :=
  k.step hx hy ((uj_len l x y).trans k.len) (.inl ⟨rfl, rfl⟩) fun i hi => co_map_lt (by rw [k.len]; exact hi)
theorem Ks.jn {N : Nat} {l : List Int} {E : Nat → Nat → Prop} {x y : Nat} (k : Ks N l E) (hx : x < N) (hy : y < N) : Ks N (jn l x y) fun i j => E i j ∨ (i = x ∧ j = y) := by
  refine k.step (u := if co l y > co l x then co l y else co l x) (v := if co l y < co l x then co l y else co l x) hx hy ((jn_len l x y).trans k.len) ?_ fun i hi => co_map_lt (by rw [k.len]; exact hi)
  by_cases c : co l y > co l x
  · rw [if_pos c, if_neg (by omega)]
    exact .inl ⟨rfl, rfl⟩
  · rw [if_neg c]
    by_cases d : co l y < co l x
    · rw [if_pos d]
      exact .inr ⟨rfl, rfl⟩
    · rw [if_neg d]
      exact .inl ⟨by omega, rfl⟩
/-- the pieces of groups -/
def ujB (l : List Int) (b : List Int) : List Int := (b.drop 1).foldl (fun l p => uj l (co b 0).toNat p.toNat) l
def ujs (l : List Int) (gs : List (List Int)) : List Int := gs.foldl ujB l
def pcs (N : Nat) (gs : List (List Int)) : List Int := ujs (ixs N) gs
def GE (gs : List (List Int)) (i j : Nat) : Prop := ∃ g ∈ gs, ∃ p ∈ g.drop 1, i = (co g 0).toNat ∧ j = p.toNat
def GBd (N : Nat) (gs : List (List Int)) : Prop := ∀ g ∈ gs, g ≠ [] ∧ ∀ p ∈ g, 0 ≤ p ∧ p < (N : Int)
theorem GBd.head {N : Nat} {gs : List (List Int)} (h : GBd N gs) {g : List Int} (hg : g ∈ gs) : (co g 0).toNat < N := by
  have ne := (h g hg).1
  have := (h g hg).2 (co g 0) (co_mem (by cases g with | nil => exact absurd rfl ne | cons _ _ => exact Nat.zero_lt_succ _))
  omega
theorem GBd.pt {N : Nat} {gs : List (List Int)} (h : GBd N gs) {g : List Int} (hg : g ∈ gs) {p : Int} (hp : p ∈ g) : p.toNat < N := by
  have := (h g hg).2 p hp
  omega
theorem ks_fold {N : Nat} (x : Nat) (hx : x < N) : ∀ (ps : List Int) (l : List Int) (E : Nat → Nat → Prop), (∀ p ∈ ps, p.toNat < N) → Ks N l E → Ks N (ps.foldl (fun l p => uj l x p.toNat) l) fun i j => E i j ∨ ∃ p ∈ ps, i = x ∧ j = p.toNat
  | [], l, E, _, k => k.congr (fun i j h => h.elim (k.bd i j) fun ⟨_, h, _⟩ => nomatch h) (fun i j h => .ed (.inl h)) fun i j h => h.elim .ed fun ⟨_, h, _⟩ => nomatch h
  | p :: ps, l, E, hp, k => by
    have k1 := k.uj hx (hp p List.mem_cons_self)
    have k2 := ks_fold x hx ps _ _ (fun q hq => hp q (List.mem_cons_of_mem _ hq)) k1
    refine k2.congr (fun i j h => ?_) (fun i j h => ?_) fun i j h => ?_
    · rcases h with h | ⟨q, hq, rfl, rfl⟩
      · exact k.bd i j h
      · exact ⟨hx, hp q hq⟩
    · rcases h with (h | ⟨e1, e2⟩) | ⟨q, hq, e⟩
      · exact .ed (.inl h)
      · exact .ed (.inr ⟨p, List.mem_cons_self, e1, e2⟩)
      · exact .ed (.inr ⟨q, List.mem_cons_of_mem _ hq, e⟩)
    · rcases h with h | ⟨q, hq, e⟩
      · exact .ed (.inl (.inl h))
      · rcases List.mem_cons.mp hq with rfl | hq
        · exact .ed (.inl (.inr e))
        · exact .ed (.inr ⟨q, hq, e⟩)
theorem ks_groups {N : Nat} : ∀ (gs : List (List Int)) (l : List Int) (E : Nat → Nat → Prop), GBd N gs → Ks N l E → Ks N (ujs l gs) fun i j => E i j ∨ GE gs i j
  | [], l, E, _, k => k.congr (fun i j h => h.elim (k.bd i j) fun ⟨_, h, _⟩ => nomatch h) (fun i j h => .ed (.inl h)) fun i j h => h.elim .ed fun ⟨_, h, _⟩ => nomatch h
  | g :: gs, l, E, hb, k => by
    have k1 := ks_fold (co g 0).toNat (hb.head List.mem_cons_self) (g.drop 1) l E (fun p hp => hb.pt List.mem_cons_self (List.mem_of_mem_drop hp)) k
    have k2 := ks_groups gs _ _ (fun x hx => hb x (List.mem_cons_of_mem _ hx)) k1
    refine k2.congr (fun i j h => ?_) (fun i j h => ?_) fun i j h => ?_
    · rcases h with h | ⟨x, hx, p, hp, rfl, rfl⟩
      · exact k.bd i j h
      · exact ⟨hb.head hx, hb.pt hx (List.mem_of_mem_drop hp)⟩
    · rcases h with (h | ⟨p, hp, e⟩) | ⟨x, hx, p, hp, e⟩
      · exact .ed (.inl h)
      · exact .ed (.inr ⟨g, List.mem_cons_self, p, hp, e⟩)
      · exact .ed (.inr ⟨x, List.mem_cons_of_mem _ hx, p, hp, e⟩)
    · rcases h with h | ⟨x, hx, p, hp, e⟩
      · exact .ed (.inl (.inl h))
      · rcases List.mem_cons.mp hx with rfl | hx
        · exact .ed (.inl (.inr ⟨p, hp, e⟩))
        · exact .ed (.inr ⟨x, hx, p, hp, e⟩)
theorem ks_pcs {N : Nat} {gs : List (List Int)} (hb : GBd N gs) : Ks N (pcs N gs) (GE gs) := by
  have k := ks_groups gs (ixs N) _ hb (ks_start N)
  exact k.congr (fun i j ⟨x, hx, p, hp, e1, e2⟩ => by rw [e1, e2]; exact ⟨hb.head hx, hb.pt hx (List.mem_of_mem_drop hp)⟩) (fun i j h => h.elim (fun z => z.elim) .ed) fun i j h => .ed (.inr h)
/-- the law's way -/
def jns (l : List Int) (es : List (Nat × Nat)) : List Int := es.foldl (fun l e => jn l e.1 e.2) l
theorem ks_jns {N : Nat} : ∀ (es : List (Nat × Nat)) (l : List Int) (E : Nat → Nat → Prop), (∀ e ∈ es, e.1 < N ∧ e.2 < N) → Ks N l E → Ks N (jns l es) fun i j => E i j ∨ (i, j) ∈ es
  | [], l, E, _, k => k.congr (fun i j h => h.elim (k.bd i j) fun h => nomatch h) (fun i j h => .ed (.inl h)) fun i j h => h.elim .ed fun h => nomatch h
  | e :: es, l, E, hb, k => by
    have k1 := k.jn (hb e List.mem_cons_self).1 (hb e List.mem_cons_self).2
    have k2 := ks_jns es _ _ (fun x hx => hb x (List.mem_cons_of_mem _ hx)) k1
    refine k2.congr (fun i j h => ?_) (fun i j h => ?_) fun i j h => ?_
    · rcases h with h | h
      · exact k.bd i j h
      · exact hb _ h
    · rcases h with (h | ⟨e1, e2⟩) | h
      · exact .ed (.inl h)
      · exact .ed (.inr (by rw [e1, e2]; exact List.mem_cons_self))
      · exact .ed (.inr (List.mem_cons_of_mem _ h))
    · rcases h with h | h
      · exact .ed (.inl (.inl h))
      · rcases List.mem_cons.mp h with h | h
        · have e1 := congrArg Prod.fst h
          have e2 := congrArg Prod.snd h
          exact .ed (.inl (.inr ⟨e1, e2⟩))
        · exact .ed (.inr h)
/-! ### what hangs on the pieces alone -/
def KerEq (a b : List Int) : Prop := a.length = b.length ∧ ∀ i j, i < a.length → j < a.length → (co a i = co a j ↔ co b i = co b j)
theorem Ks.ker {N : Nat} {a b : List Int} {E : Nat → Nat → Prop} (x : Ks N a E) (y : Ks N b E) : KerEq a b :=
  ⟨x.len.trans y.len.symm, fun i j hi hj => by rw [x.len] at hi hj; exact (x.eq i j hi hj).trans (y.eq i j hi hj).symm⟩
theorem ixf_co {l : List Int} {v : Int} (h : v ∈ l) : l.idxOf v < l.length ∧ co l (l.idxOf v) = v := by
  have hl := List.idxOf_lt_length_of_mem h
  refine ⟨hl, ?_⟩
  have e : l[l.idxOf v]? = some v := by rw [List.getElem?_eq_getElem hl, List.getElem_idxOf]
  exact Option.some.inj ((co_get hl).symm.trans e)
theorem co_ext {a b : List Int} (hl : a.length = b.length) (h : ∀ i, i < a.length → co a i = co b i) : a = b := by
  refine List.ext_getElem? fun i => ?_
  by_cases c : i < a.length
  · rw [co_get c, co_get (by omega), h i c]
  · rw [List.getElem?_eq_none (by omega), List.getElem?_eq_none (by omega)]
theorem KerEq.img {a b : List Int} (k : KerEq a b) : ∃ g : Int → Int, b = a.map g ∧ ∀ x ∈ a, ∀ y ∈ a, g x = g y → x = y := by
  refine ⟨fun v => co b (a.idxOf v), ?_, fun x hx y hy e => ?_⟩
  · refine co_ext (by rw [List.length_map, k.1]) fun i hi => ?_
    rw [← k.1] at hi
    rw [co_map_lt hi]
    have m := ixf_co (co_mem hi)
    exact (k.2 i _ hi m.1).mp m.2.symm
  · have m1 := ixf_co hx
    have m2 := ixf_co hy
    have := (k.2 _ _ m1.1 m2.1).mpr e
    rw [m1.2, m2.2] at this
    exact this
theorem KerEq.blocks {a b : List Int} (k : KerEq a b) : blocksOf b = blocksOf a := by
  obtain ⟨g, e, inj⟩ := k.img
  rw [e]
  exact blocksOf_map inj
/-- the pieces of which no mark is shown -/
def hid (ms shown : List Int) : Nat := ((seenL [] ms).filter fun k => decide (k ∉ shown)).length
theorem hid_is {ms shown L : List Int} (nd : L.Nodup) (h : ∀ k, k ∈ L ↔ k ∈ ms ∧ k ∉ shown) : L.length = hid ms shown := by
  refine SD.same_len nd ((seenL_nodup ms [] List.nodup_nil).filter _) fun k => ?_
  rw [h k, List.mem_filter, seenL_mem, decide_eq_true_eq]
  exact ⟨fun z => ⟨.inr z.1, z.2⟩, fun z => ⟨z.1.elim (fun q => nomatch q) id, z.2⟩⟩
def cnt (ms : List Int) : Nat := (seenL [] ms).length
theorem cnt_is {ms L : List Int} (nd : L.Nodup) (h : ∀ k, k ∈ L ↔ k ∈ ms) : L.length = cnt ms := by
  refine SD.same_len nd (seenL_nodup ms [] List.nodup_nil) fun k => ?_
  rw [h k, seenL_mem]
  exact ⟨.inr, fun z => z.elim (fun q => nomatch q) id⟩
theorem cnt_hid (ms : List Int) : cnt ms = hid ms [] := by
  unfold cnt hid
  rw [List.filter_eq_self.mpr fun k _ => decide_eq_true List.not_mem_nil]
/-- pieces told by two rows of points: f leads from the second to the first -/
theorem hid_map {a b sa sb : List Int} (f : Nat → Nat) (hf : ∀ i, i < b.length → f i < a.length) (on : ∀ i, i < a.length → ∃ j, j < b.length ∧ co a (f j) = co a i) (kq : ∀ i j, i < b.length → j < b.length → (co b i = co b j ↔ co a (f i) = co a (f j)))
    (sh : ∀ i, i < b.length → (co b i ∈ sb ↔ co a (f i) ∈ sa)) : hid b sb = hid a sa := by
  have nb := (seenL_nodup b [] List.nodup_nil).filter fun k => decide (k ∉ sb)
  have memb : ∀ k, k ∈ (seenL [] b).filter (fun k => decide (k ∉ sb)) ↔ k ∈ b ∧ k ∉ sb := fun k => by
    rw [List.mem_filter, seenL_mem, decide_eq_true_eq]
    exact ⟨fun z => ⟨z.1.elim (fun q => nomatch q) id, z.2⟩, fun z => ⟨.inr z.1, z.2⟩⟩
  have e : hid b sb = (((seenL [] b).filter fun k => decide (k ∉ sb)).map fun v => co a (f (b.idxOf v))).length := (List.length_map ..).symm
  rw [e]
  refine hid_is ?_ fun k => ?_
  · refine List.Pairwise.map _ (R := fun x y => x ∈ b ∧ y ∈ b ∧ x ≠ y) (fun x y ⟨hx, hy, ne⟩ z => ?_) (List.Pairwise.imp_of_mem (fun hx hy ne => ⟨((memb _).mp hx).1, ((memb _).mp hy).1, ne⟩) nb)
    have m1 := ixf_co hx
    have m2 := ixf_co hy
    have := (kq _ _ m1.1 m2.1).mpr z
    rw [m1.2, m2.2] at this
    exact ne this
  · rw [List.mem_map]
    constructor
    · rintro ⟨v, hv, rfl⟩
      obtain ⟨h1, h2⟩ := (memb v).mp hv
      have m := ixf_co h1
      refine ⟨co_mem (hf _ m.1), fun z => h2 ?_⟩
      rw [← m.2]
      exact (sh _ m.1).mpr z
    · rintro ⟨h1, h2⟩
      have m := ixf_co h1
      obtain ⟨j, hj, ej⟩ := on _ m.1
      rw [m.2] at ej
      have m2 := ixf_co (co_mem hj)
      have back : co a (f (b.idxOf (co b j))) = k := ((kq _ _ m2.1 hj).mp m2.2).trans ej
      refine ⟨co b j, (memb _).mpr ⟨co_mem hj, fun z => h2 ?_⟩, back⟩
      rw [← ej]
      exact (sh j hj).mp z
/-! ### blocks as groups -/
theorem blocks_ge {l : List Int} : ∀ i j, GE (blocksOf l) i j → i < l.length ∧ j < l.length ∧ co l i = co l j := by
  rintro i j ⟨g, hg, p, hp, rfl, rfl⟩
  unfold blocksOf at hg
  obtain ⟨v, hv, rfl⟩ := List.mem_map.mp hg
  have ne := blocks_ne (marks := l) _ (by unfold blocksOf; exact List.mem_map.mpr ⟨v, hv, rfl⟩)
  obtain ⟨a, ea, la, va⟩ := mem_posOf.mp (show co (posOf l v) 0 ∈ posOf l v from co_mem (by cases e : posOf l v with | nil => exact absurd e ne | cons _ _ => exact Nat.zero_lt_succ _))
  obtain ⟨b, eb, lb, vb⟩ := mem_posOf.mp (List.mem_of_mem_drop hp)
  rw [ea, eb]
  exact ⟨la, lb, va.trans vb.symm⟩
theorem ge_blocks {l : List Int} {i j : Nat} (hi : i < l.length) (hj : j < l.length) (e : co l i = co l j) : Conn (GE (blocksOf l)) i j := by
  have hv : co l i ∈ seenL [] l := (seenL_mem _ _ _).mpr (.inr (co_mem hi))
  have hg : posOf l (co l i) ∈ blocksOf l := by unfold blocksOf; exact List.mem_map.mpr ⟨_, hv, rfl⟩
  have one : ∀ k, k < l.length → co l k = co l i → Conn (GE (blocksOf l)) (co (posOf l (co l i)) 0).toNat k := fun k hk ek => by
    have hm : (k : Int) ∈ posOf l (co l i) := mem_posOf.mpr ⟨k, rfl, hk, ek⟩
    cases ep : posOf l (co l i) with
    | nil => rw [ep] at hm; cases hm
    | cons h t =>
      rw [ep] at hm
      rcases List.mem_cons.mp hm with z | z
      · show Conn _ h.toNat k
        rw [← z]
        exact .rf _
      · exact .ed ⟨posOf l (co l i), hg, (k : Int), by rw [ep]; exact z, by rw [ep], rfl⟩
  exact (one i hi rfl).sy.tr (one j hj e.symm)
theorem blocks_gbd (l : List Int) : GBd l.length (blocksOf l) := fun g hg => ⟨blocks_ne g hg, fun p hp => by
  unfold blocksOf at hg
  obtain ⟨v, hv, rfl⟩ := List.mem_map.mp hg
  obtain ⟨a, ea, la, va⟩ := mem_posOf.mp hp
  omega⟩
theorem uj_mem {l : List Int} {x y : Nat} (hx : x < l.length) : ∀ v ∈ uj l x y, v ∈ l := fun v hv => by
  unfold uj at hv
  obtain ⟨c, hc, rfl⟩ := List.mem_map.mp hv
  split
  · exact co_mem hx
  · exact hc
theorem ujB_mem {l : List Int} {b : List Int} (h0 : (co b 0).toNat < l.length) : (ujB l b).length = l.length ∧ ∀ v ∈ ujB l b, v ∈ l := by
  unfold ujB
  generalize b.drop 1 = t
  generalize (co b 0).toNat = x at h0
  revert l
  induction t with
  | nil => exact fun h => ⟨rfl, fun v h => h⟩
  | cons p t ih =>
    intro l h0
    obtain ⟨a, b⟩ := ih (l := uj l x p.toNat) (by rw [uj_len]; exact h0)
    exact ⟨a.trans (uj_len _ _ _), fun v hv => uj_mem h0 v (b v hv)⟩
theorem pcs_mem {N : Nat} {gs : List (List Int)} (hb : GBd N gs) : ∀ v ∈ pcs N gs, 0 ≤ v ∧ v < (N : Int) := by
  have run : ∀ (gs : List (List Int)) (l : List Int), GBd N gs → l.length = N → ∀ v ∈ ujs l gs, v ∈ l := by
    intro gs
    induction gs with
    | nil => exact fun l _ _ v h => h
    | cons g gs ih =>
      intro l hb hl v hv
      obtain ⟨a, b⟩ := ujB_mem (l := l) (b := g) (by rw [hl]; exact hb.head List.mem_cons_self)
      exact b v (ih (ujB l g) (fun x hx => hb x (List.mem_cons_of_mem _ hx)) (a.trans hl) v hv)
  exact fun v hv => mem_ixs.mp (run gs (ixs N) hb (ixs_len' N) v hv)

theorem co_app2 (a b : List Int) (i : Nat) : co (a ++ b) i = if i < a.length then co a i else co b (i - a.length) := by
  by_cases c : i < a.length
  · rw [if_pos c, co_app_l c]
  · rw [if_neg c]
    by_cases d : i - a.length < b.length
    · have := co_app_r (a := a) (b := b) (i := i - a.length) d
      rw [show a.length + (i - a.length) = i by omega] at this
      exact this
    · rw [co_ge (by rw [List.length_append]; omega), co_ge (by omega)]

theorem co_drop (z : List Int) (b i : Nat) : co (z.drop b) i = co z (b + i) := by
  unfold co
  rw [List.getD_eq_getElem?_getD, List.getD_eq_getElem?_getD, List.getElem?_drop]
theorem co_takeB {z : List Int} {a i : Nat} (h : i < a) : co (z.take a) i = co z i := by
  unfold co
  rw [List.getD_eq_getElem?_getD, List.getD_eq_getElem?_getD, List.getElem?_take_of_lt h]

/-! ### what goes through, by marks -/
def endT (n : Nat) (l : List Int) : List Int := (seenL [] (l.take n)).filter fun v => decide (v ∈ l.drop n)
def endB (n : Nat) (l : List Int) : List Int := (seenL [] (l.drop n)).filter fun v => decide (v ∈ l.take n)
def upD (n : Nat) (l : List Int) : List Int := l.take n ++ endT n l
def miD (n : Nat) (l : List Int) : List Int := endT n l ++ endB n l
def loD (n : Nat) (l : List Int) : List Int := endB n l ++ l.drop n
theorem seen_in {l : List Int} {v : Int} : v ∈ seenL [] l ↔ v ∈ l := by
  rw [seenL_mem]
  exact ⟨fun z => z.elim (fun q => nomatch q) id, .inr⟩
theorem mem_endT {n : Nat} {l : List Int} {v : Int} : v ∈ endT n l ↔ v ∈ l.take n ∧ v ∈ l.drop n := by
  unfold endT
  rw [List.mem_filter, seen_in, decide_eq_true_eq]
theorem mem_endB {n : Nat} {l : List Int} {v : Int} : v ∈ endB n l ↔ v ∈ l.take n ∧ v ∈ l.drop n := by
  unfold endB
  rw [List.mem_filter, seen_in, decide_eq_true_eq, And.comm]
theorem endT_nd (n : Nat) (l : List Int) : (endT n l).Nodup := (seenL_nodup _ [] List.nodup_nil).filter _
theorem endB_nd (n : Nat) (l : List Int) : (endB n l).Nodup := (seenL_nodup _ [] List.nodup_nil).filter _
theorem end_perm (n : Nat) (l : List Int) : (endT n l).Perm (endB n l) := (List.perm_ext_iff_of_nodup (endT_nd n l) (endB_nd n l)).mpr fun v => mem_endT.trans mem_endB.symm
theorem end_len (n : Nat) (l : List Int) : (endB n l).length = (endT n l).length := (end_perm n l).length_eq.symm
theorem endT_le {n : Nat} {l : List Int} (h : n ≤ l.length) : (endT n l).length ≤ n := by
  have h1 := List.length_filter_le (fun v => decide (v ∈ l.drop n)) (seenL [] (l.take n))
  have h2 := seenL_len (l.take n) []
  rw [List.length_take] at h2
  have h3 : ([] : List Int).length = 0 := rfl
  unfold endT
  omega
theorem endB_le {n m : Nat} {l : List Int} (h : l.length = n + m) : (endB n l).length ≤ m := by
  have h1 := List.length_filter_le (fun v => decide (v ∈ l.take n)) (seenL [] (l.drop n))
  have h2 := seenL_len (l.drop n) []
  rw [List.length_drop] at h2
  have h3 : ([] : List Int).length = 0 := rfl
  unfold endB
  omega
/-! order -/
theorem asc_eq {l1 l2 : List Int} (h1 : l1.Pairwise (· < ·)) (h2 : l2.Pairwise (· < ·)) (h : ∀ x, x ∈ l1 ↔ x ∈ l2) : l1 = l2 := by
  have n1 : l1.Nodup := h1.imp fun h => by omega
  have n2 : l2.Nodup := h2.imp fun h => by omega
  refine List.Perm.eq_of_pairwise (le := (· ≤ ·)) (fun a b _ _ x y => by omega) (h1.imp fun h => by omega) (h2.imp fun h => by omega) ((List.perm_ext_iff_of_nodup n1 n2).mpr h)
def leB (p q : List Int) : Bool := decide (p ≤ q)
theorem le_trans3 {a b c : List Int} (h : a ≤ b) (k : b ≤ c) : a ≤ c := List.le_trans h k
theorem sort_is {L S : List (List Int)} (pm : L.Perm S) (h : S.Pairwise (· ≤ ·)) : L.mergeSort leB = S := by
  have s := List.pairwise_mergeSort (le := leB) (fun a b c x y => decide_eq_true (le_trans3 (of_decide_eq_true x) (of_decide_eq_true y))) (fun a b => by
    unfold leB
    rw [Bool.or_eq_true, decide_eq_true_eq, decide_eq_true_eq]
    exact List.le_total a b) L
  refine List.Perm.eq_of_pairwise (le := (· ≤ ·)) (fun a b _ _ x y => List.le_antisymm x y) (s.imp fun h => of_decide_eq_true h) h ((List.mergeSort_perm L leB).trans pm)
theorem le_heads {b c : List Int} (hb : b ≠ []) (hc : c ≠ []) (h : co b 0 < co c 0) : b ≤ c := by
  cases b with
  | nil => exact absurd rfl hb
  | cons x b =>
    cases c with
    | nil => exact absurd rfl hc
    | cons y c => exact List.le_of_lt (List.cons_lt_cons_iff.mpr (.inl h))
theorem posOf_ne {l : List Int} {v : Int} (h : v ∈ l) : posOf l v ≠ [] := by
  obtain ⟨i, hi, e⟩ := mem_get h
  intro z
  have : (i : Int) ∈ posOf l v := mem_posOf.mpr ⟨i, rfl, hi, e⟩
  rw [z] at this
  exact nomatch this
theorem posOf_nil {l : List Int} {v : Int} (h : v ∉ l) : posOf l v = [] := by
  refine List.eq_nil_iff_forall_not_mem.mpr fun x hx => ?_
  obtain ⟨i, _, hi, e⟩ := mem_posOf.mp hx
  exact h (e ▸ co_mem hi)
/-- places in order of first appearance -/
theorem seen_sorted (X : List Int) : ((seenL [] X).map (posOf X)).Pairwise (· ≤ ·) := by
  have h := blocks_heads X
  unfold blocksOf at h
  rw [List.map_map] at h
  have h2 : (seenL [] X).Pairwise fun a b => (a ∈ X ∧ b ∈ X) ∧ co (posOf X a) 0 < co (posOf X b) 0 :=
    List.Pairwise.imp_of_mem (fun ha hb h => ⟨⟨seen_in.mp ha, seen_in.mp hb⟩, h⟩) (List.pairwise_map.mp h)
  exact List.pairwise_map.mpr (h2.imp fun {a b} h => le_heads (posOf_ne h.1.1) (posOf_ne h.1.2) h.2)
theorem sort_blocks {X W : List Int} (nd : W.Nodup) (h : ∀ v, v ∈ W ↔ v ∈ X) : (W.map (posOf X)).mergeSort leB = blocksOf X :=
  sort_is (((List.perm_ext_iff_of_nodup nd (seenL_nodup X [] List.nodup_nil)).mpr fun v => (h v).trans seen_in.symm).map _) (seen_sorted X)
/-! halves of blocks -/
def halfA (n : Int) (b : List Int) : List Int := b.filter fun p => decide (p < n)
def halfB (n : Int) (b : List Int) : List Int := (b.filter fun p => decide (p ≥ n)).map fun p => p - n
theorem pos_halfA {n : Nat} {l : List Int} (h : n ≤ l.length) (v : Int) : halfA n (posOf l v) = posOf (l.take n) v := by
  refine asc_eq ((posOf_asc l v).filter _) (posOf_asc _ v) fun x => ?_
  unfold halfA
  rw [List.mem_filter, mem_posOf, mem_posOf, decide_eq_true_eq, List.length_take, Nat.min_eq_left h]
  constructor
  · rintro ⟨⟨i, rfl, hi, e⟩, lt⟩
    exact ⟨i, rfl, by omega, by rw [co_takeB (by omega), e]⟩
  · rintro ⟨i, rfl, hi, e⟩
    exact ⟨⟨i, rfl, by omega, by rw [co_takeB hi] at e; exact e⟩, by omega⟩
theorem pos_halfB {n : Nat} {l : List Int} (h : n ≤ l.length) (v : Int) : halfB n (posOf l v) = posOf (l.drop n) v := by
  refine asc_eq (List.pairwise_map.mpr (((posOf_asc l v).filter _).imp fun h => by omega)) (posOf_asc _ v) fun x => ?_
  unfold halfB
  rw [List.mem_map, mem_posOf, List.length_drop]
  constructor
  · rintro ⟨y, hy, rfl⟩
    obtain ⟨h1, h2⟩ := List.mem_filter.mp hy
    obtain ⟨i, rfl, hi, e⟩ := mem_posOf.mp h1
    have h2 : (i : Int) ≥ n := of_decide_eq_true h2
    exact ⟨i - n, by omega, by omega, by rw [co_drop, show n + (i - n) = i by omega, e]⟩
  · rintro ⟨i, rfl, hi, e⟩
    rw [co_drop] at e
    exact ⟨((n + i : Nat) : Int), List.mem_filter.mpr ⟨mem_posOf.mpr ⟨n + i, rfl, by omega, e⟩, decide_eq_true (by omega)⟩, by omega⟩
theorem seenL_more : ∀ (b acc : List Int), ∃ R, seenL acc b = acc ++ R ∧ ∀ v ∈ R, v ∉ acc
  | [], acc => ⟨[], (List.append_nil _).symm, fun v hv => nomatch hv⟩
  | x :: b, acc => by
    show ∃ R, seenL (if x ∈ acc then acc else acc ++ [x]) b = acc ++ R ∧ ∀ v ∈ R, v ∉ acc
    by_cases c : x ∈ acc
    · rw [if_pos c]
      exact seenL_more b acc
    · rw [if_neg c]
      obtain ⟨R, e, h⟩ := seenL_more b (acc ++ [x])
      refine ⟨x :: R, by rw [e, List.append_assoc]; rfl, fun v hv => ?_⟩
      rcases List.mem_cons.mp hv with rfl | hv
      · exact c
      · exact fun z => h v hv (List.mem_append_left _ z)
theorem seenL_app : ∀ (a b acc : List Int), seenL acc (a ++ b) = seenL (seenL acc a) b
  | [], _, _ => rfl
  | _ :: a, b, _ => seenL_app a b _
/-- the values of the lower half that the upper half has not -/
def onlyR (n : Nat) (l : List Int) : List Int := (seenL [] l).filter fun v => decide (v ∉ l.take n)
theorem seen_split (n : Nat) (l : List Int) : seenL [] l = seenL [] (l.take n) ++ onlyR n l := by
  obtain ⟨R, e, h⟩ := seenL_more (l.drop n) (seenL [] (l.take n))
  have e0 : seenL [] l = seenL [] (l.take n) ++ R := by
    rw [← e, ← seenL_app, List.take_append_drop]
  have e1 : onlyR n l = R := by
    unfold onlyR
    have f2 : R.filter (fun v => decide (v ∉ l.take n)) = R := List.filter_eq_self.mpr fun v hv => decide_eq_true (show v ∉ l.take n from fun z => h v hv (seen_in.mpr z))
    rw [e0, List.filter_append, f2, List.filter_eq_nil_iff.mpr fun v hv => by
      rw [decide_eq_true_eq]
      exact fun z => z (seen_in.mp hv)]
    rfl
  rw [e0, e1]
theorem mem_onlyR {n : Nat} {l : List Int} {v : Int} : v ∈ onlyR n l ↔ v ∈ l.drop n ∧ v ∉ l.take n := by
  unfold onlyR
  rw [List.mem_filter, seen_in, decide_eq_true_eq]
  constructor
  · rintro ⟨h1, h2⟩
    rw [← List.take_append_drop n l] at h1
    exact ⟨(List.mem_append.mp h1).resolve_left h2, h2⟩
  · rintro ⟨h1, h2⟩
    exact ⟨List.mem_of_mem_drop h1, h2⟩
def bothH (x : List Int × List Int) : Bool := !x.1.isEmpty && !x.2.isEmpty
def halves (n : Int) (bs : List (List Int)) : List (List Int × List Int) := bs.map fun b => (halfA n b, halfB n b)
theorem halves_of {n : Nat} {l : List Int} (h : n ≤ l.length) : halves n (blocksOf l) = (seenL [] l).map fun v => (posOf (l.take n) v, posOf (l.drop n) v) := by
  unfold halves blocksOf
  rw [List.map_map]
  refine List.map_congr_left fun v _ => ?_
  show (halfA n (posOf l v), halfB n (posOf l v)) = _
  rw [pos_halfA h, pos_halfB h]
theorem emp_pos {l : List Int} {v : Int} : (posOf l v).isEmpty = decide (v ∉ l) := by
  by_cases c : v ∈ l
  · rw [decide_eq_false (fun z => z c)]
    cases e : posOf l v with
    | nil => exact absurd e (posOf_ne c)
    | cons _ _ => rfl
  · rw [decide_eq_true c, posOf_nil c]
    rfl
theorem thr_of {n : Nat} {l : List Int} (h : n ≤ l.length) : (halves n (blocksOf l)).filter bothH = (endT n l).map fun v => (posOf (l.take n) v, posOf (l.drop n) v) := by
  rw [halves_of h, List.filter_map]
  have e : (seenL [] l).filter (bothH ∘ fun v => (posOf (l.take n) v, posOf (l.drop n) v)) = endT n l := by
    rw [seen_split n l, List.filter_append]
    have e2 : (onlyR n l).filter (bothH ∘ fun v => (posOf (l.take n) v, posOf (l.drop n) v)) = [] := List.filter_eq_nil_iff.mpr fun v hv => by
      show ¬ (!(posOf (l.take n) v).isEmpty && !(posOf (l.drop n) v).isEmpty) = true
      rw [emp_pos, decide_eq_true (mem_onlyR.mp hv).2]
      exact Bool.false_ne_true
    rw [e2, List.append_nil]
    unfold endT
    refine List.filter_congr fun v hv => ?_
    show (!(posOf (l.take n) v).isEmpty && !(posOf (l.drop n) v).isEmpty) = _
    rw [emp_pos, emp_pos, decide_eq_false (fun z => z (seen_in.mp hv))]
    by_cases c : v ∈ l.drop n
    · rw [decide_eq_true c, decide_eq_false (fun z => z c)]
      rfl
    · rw [decide_eq_false c, decide_eq_true c]
      rfl
  rw [e]
theorem onlyA_of {n : Nat} {l : List Int} (h : n ≤ l.length) : ((halves n (blocksOf l)).filter fun x => x.2.isEmpty).map Prod.fst = ((seenL [] (l.take n)).filter fun v => decide (v ∉ l.drop n)).map (posOf (l.take n)) := by
  rw [halves_of h, List.filter_map, List.map_map]
  have e : (seenL [] l).filter ((fun x : List Int × List Int => x.2.isEmpty) ∘ fun v => (posOf (l.take n) v, posOf (l.drop n) v)) = (seenL [] (l.take n)).filter fun v => decide (v ∉ l.drop n) := by
    rw [seen_split n l, List.filter_append]
    have e2 : (onlyR n l).filter ((fun x : List Int × List Int => x.2.isEmpty) ∘ fun v => (posOf (l.take n) v, posOf (l.drop n) v)) = [] := List.filter_eq_nil_iff.mpr fun v hv => by
      show ¬ (posOf (l.drop n) v).isEmpty = true
      rw [emp_pos, decide_eq_false (fun z => z (mem_onlyR.mp hv).1)]
      exact Bool.false_ne_true
    rw [e2, List.append_nil]
    exact List.filter_congr fun v _ => emp_pos
  rw [e]
  rfl
theorem onlyB_of {n : Nat} {l : List Int} (h : n ≤ l.length) : ((halves n (blocksOf l)).filter fun x => x.1.isEmpty).map Prod.snd = (onlyR n l).map (posOf (l.drop n)) := by
  rw [halves_of h, List.filter_map, List.map_map]
  have e : (seenL [] l).filter ((fun x : List Int × List Int => x.1.isEmpty) ∘ fun v => (posOf (l.take n) v, posOf (l.drop n) v)) = onlyR n l := List.filter_congr fun v _ => emp_pos
  rw [e]
  rfl
/-! the parts, as the program makes them -/
theorem idx_nd {l : List Int} (nd : l.Nodup) {k : Nat} (h : k < l.length) : l.idxOf (co l k) = k := by
  have m := ixf_co (co_mem h)
  have e : l[l.idxOf (co l k)]? = l[k]? := by rw [co_get m.1, co_get h, m.2]
  exact (List.getElem?_inj m.1 nd).mp e
def shiftB (t : Int) (b : List Int) : List Int := b.map fun p => p + t
def upU (n : Nat) (l : List Int) : List (List Int) := ((List.range (endT n l).length).map fun (k : Nat) => posOf (l.take n) (co (endT n l) k) ++ [((n + k : Nat) : Int)]) ++ ((seenL [] (l.take n)).filter fun v => decide (v ∉ l.drop n)).map (posOf (l.take n))
def loU (n : Nat) (l : List Int) : List (List Int) := ((List.range (endB n l).length).map fun (k : Nat) => (k : Int) :: shiftB (endB n l).length (posOf (l.drop n) (co (endB n l) k))) ++ (onlyR n l).map fun v => shiftB (endB n l).length (posOf (l.drop n) v)
def miU (n : Nat) (l : List Int) : List (List Int) := (List.range (endT n l).length).map fun (k : Nat) => [(k : Int), (((endT n l).length + (endB n l).idxOf (co (endT n l) k) : Nat) : Int)]
theorem posOf_app (a b : List Int) (v : Int) : posOf (a ++ b) v = posOf a v ++ shiftB a.length (posOf b v) := by
  refine asc_eq (posOf_asc _ v) ?_ fun x => ?_
  · refine List.pairwise_append.mpr ⟨posOf_asc a v, List.pairwise_map.mpr ((posOf_asc b v).imp fun h => by omega), fun x hx y hy => ?_⟩
    obtain ⟨i, rfl, hi, _⟩ := mem_posOf.mp hx
    obtain ⟨z, hz, rfl⟩ := List.mem_map.mp hy
    obtain ⟨j, rfl, hj, _⟩ := mem_posOf.mp hz
    omega
  · rw [List.mem_append, mem_posOf, mem_posOf, List.length_append]
    unfold shiftB
    rw [List.mem_map]
    constructor
    · rintro ⟨i, rfl, hi, e⟩
      rw [co_app2] at e
      by_cases c : i < a.length
      · rw [if_pos c] at e
        exact .inl ⟨i, rfl, c, e⟩
      · rw [if_neg c] at e
        exact .inr ⟨((i - a.length : Nat) : Int), mem_posOf.mpr ⟨_, rfl, by omega, e⟩, by omega⟩
    · rintro (⟨i, rfl, hi, e⟩ | ⟨y, hy, rfl⟩)
      · exact ⟨i, rfl, by omega, by rw [co_app2, if_pos hi, e]⟩
      · obtain ⟨j, rfl, hj, e⟩ := mem_posOf.mp hy
        exact ⟨a.length + j, by omega, by omega, by rw [co_app2, if_neg (by omega), show a.length + j - a.length = j by omega, e]⟩
theorem posOf_one {l : List Int} (nd : l.Nodup) {v : Int} (h : v ∈ l) : posOf l v = [((l.idxOf v : Nat) : Int)] := by
  have m := ixf_co h
  refine asc_eq (posOf_asc l v) (List.pairwise_singleton _ _) fun x => ?_
  rw [mem_posOf, List.mem_singleton]
  constructor
  · rintro ⟨i, rfl, hi, e⟩
    rw [← e, idx_nd nd hi]
  · rintro rfl
    exact ⟨_, rfl, m.1, m.2⟩
theorem range_co' (l : List Int) : (List.range l.length).map (co l) = l := by
  refine List.ext_getElem? fun i => ?_
  rcases Nat.lt_or_ge i l.length with c | c
  · rw [List.getElem?_map, List.getElem?_range c, co_get c]
    rfl
  · rw [List.getElem?_eq_none (by rw [List.length_map, List.length_range]; exact c), List.getElem?_eq_none c]
theorem over_range {β : Type} {l : List Int} {f : Nat → β} {g : Int → β} (h : ∀ k, k < l.length → f k = g (co l k)) : (List.range l.length).map f = l.map g := by
  conv => rhs; rw [← range_co' l, List.map_map]
  exact List.map_congr_left fun k hk => h k (List.mem_range.mp hk)
theorem up_blocks {n : Nat} {l : List Int} (h : n ≤ l.length) : (upU n l).mergeSort leB = blocksOf (upD n l) := by
  have lt : (l.take n).length = n := by rw [List.length_take]; omega
  have e : upU n l = (endT n l ++ (seenL [] (l.take n)).filter fun v => decide (v ∉ l.drop n)).map (posOf (upD n l)) := by
    unfold upU upD
    rw [List.map_append]
    congr 1
    · refine over_range fun k hk => ?_
      rw [posOf_app, posOf_one (endT_nd n l) (co_mem hk), idx_nd (endT_nd n l) hk, lt]
      unfold shiftB
      show _ ++ [((n + k : Nat) : Int)] = _ ++ [(k : Int) + (n : Int)]
      rw [show ((n + k : Nat) : Int) = (k : Int) + (n : Int) by omega]
    · refine List.map_congr_left fun v hv => ?_
      have hv := of_decide_eq_true (List.mem_filter.mp hv).2
      rw [posOf_app, posOf_nil (l := endT n l) fun z => hv (mem_endT.mp z).2]
      exact (List.append_nil _).symm
  rw [e]
  refine sort_blocks ?_ fun v => ?_
  · refine List.nodup_append.mpr ⟨endT_nd n l, (seenL_nodup _ [] List.nodup_nil).filter _, fun a ha b hb => ?_⟩
    have hb := of_decide_eq_true (List.mem_filter.mp hb).2
    exact fun z => hb (z ▸ (mem_endT.mp ha).2)
  · unfold upD
    rw [List.mem_append, List.mem_append, List.mem_filter, seen_in, decide_eq_true_eq, mem_endT]
    constructor
    · rintro (h | h)
      · exact .inl h.1
      · exact .inl h.1
    · rintro (h | h)
      · by_cases c : v ∈ l.drop n
        · exact .inl ⟨h, c⟩
        · exact .inr ⟨h, c⟩
      · exact .inl h
theorem lo_blocks {n : Nat} {l : List Int} : (loU n l).mergeSort leB = blocksOf (loD n l) := by
  have e : loU n l = (endB n l ++ onlyR n l).map (posOf (loD n l)) := by
    unfold loU loD
    rw [List.map_append]
    congr 1
    · refine over_range (g := posOf (endB n l ++ l.drop n)) fun k hk => ?_
      rw [posOf_app, posOf_one (endB_nd n l) (co_mem hk), idx_nd (endB_nd n l) hk]
      rfl
    · refine List.map_congr_left fun v hv => ?_
      have hv := mem_onlyR.mp hv
      rw [posOf_app, posOf_nil (l := endB n l) fun z => hv.2 (mem_endB.mp z).1]
      rfl
  rw [e]
  refine sort_blocks ?_ fun v => ?_
  · refine List.nodup_append.mpr ⟨endB_nd n l, (seenL_nodup _ [] List.nodup_nil).filter _, fun a ha b hb => ?_⟩
    exact fun z => (mem_onlyR.mp hb).2 (z ▸ (mem_endB.mp ha).1)
  · unfold loD
    rw [List.mem_append, List.mem_append, mem_onlyR, mem_endB]
    constructor
    · rintro (h | h)
      · exact .inr h.2
      · exact .inr h.1
    · rintro (h | h)
      · exact .inl h
      · by_cases c : v ∈ l.take n
        · exact .inl ⟨c, h⟩
        · exact .inr ⟨h, c⟩
theorem mi_blocks {n : Nat} {l : List Int} : miU n l = blocksOf (miD n l) := by
  unfold miU blocksOf miD
  have e : seenL [] (endT n l ++ endB n l) = endT n l := by
    rw [seenL_app]
    have e1 : seenL [] (endT n l) = endT n l := by
      have run : ∀ (a acc : List Int), a.Nodup → (∀ v ∈ a, v ∉ acc) → seenL acc a = acc ++ a := by
        intro a
        induction a with
        | nil => exact fun acc _ _ => (List.append_nil acc).symm
        | cons x a ih =>
          intro acc nd h
          obtain ⟨h1, h2⟩ := List.nodup_cons.mp nd
          show seenL (if x ∈ acc then acc else acc ++ [x]) a = _
          rw [if_neg (h x List.mem_cons_self), ih _ h2 fun v hv z => ?_, List.append_assoc]
          · rfl
          · rcases List.mem_append.mp z with z | z
            · exact h v (List.mem_cons_of_mem _ hv) z
            · rw [List.mem_singleton.mp z] at hv
              exact h1 hv
      exact run _ [] (endT_nd n l) fun _ _ z => nomatch z
    rw [e1]
    obtain ⟨R, e2, h⟩ := seenL_more (endB n l) (endT n l)
    have : R = [] := List.eq_nil_iff_forall_not_mem.mpr fun v hv => by
      have : v ∈ seenL (endT n l) (endB n l) := by rw [e2]; exact List.mem_append_right _ hv
      rcases (seenL_mem _ _ v).mp this with z | z
      · exact h v hv z
      · exact h v hv (mem_endT.mpr (mem_endB.mp z))
    rw [e2, this, List.append_nil]
  rw [e]
  refine over_range fun k hk => ?_
  have m := co_mem hk
  rw [posOf_app, posOf_one (endT_nd n l) m, posOf_one (endB_nd n l) (mem_endB.mpr (mem_endT.mp m)), idx_nd (endT_nd n l) hk]
  show [(k : Int), (((endT n l).length + (endB n l).idxOf (co (endT n l) k) : Nat) : Int)] = [(k : Int), (((endB n l).idxOf (co (endT n l) k) : Nat) : Int) + ((endT n l).length : Int)]
  rw [show (((endB n l).idxOf (co (endT n l) k) : Nat) : Int) + ((endT n l).length : Int) = (((endT n l).length + (endB n l).idxOf (co (endT n l) k) : Nat) : Int) by omega]
/-- the lower places, in order -/
theorem belows_sort {n : Nat} {l : List Int} : ((endT n l).map (posOf (l.drop n))).mergeSort leB = (endB n l).map (posOf (l.drop n)) := by
  refine sort_is ((end_perm n l).map _) ?_
  have := seen_sorted (l.drop n)
  exact List.Pairwise.sublist (List.Sublist.map _ List.filter_sublist) this
theorem posOf_inj {l : List Int} {u v : Int} (hu : u ∈ l) (h : posOf l u = posOf l v) : u = v := by
  obtain ⟨i, hi, e⟩ := mem_get hu
  have : (i : Int) ∈ posOf l v := by rw [← h]; exact mem_posOf.mpr ⟨i, rfl, hi, e⟩
  obtain ⟨j, ej, hj, e2⟩ := mem_posOf.mp this
  obtain rfl : i = j := by omega
  rw [← e, e2]

section
variable {P : Program} {w : World} {K : PySem.W.Frag} {mg : Str → Option Value} {base : Heap}
/-! ### _halves, and what is taken from them -/
theorem pg_tupK {X : Cx} {K : PySem.W.Frag} (hK : X.K = K) {es : List Expr} {k : Nat} {t : TGs} {n : Nat} {pos : Pos} (hc : X.calm = true) (h : PGs X es t)
    (hn : (assignEach es X.env).length = n := by rfl) (hst : (assignEach es X.env).findIdx? (·.1) = none := by rfl) : PG X (.Tuple es k pos) (gTup K n t) := by
  subst hK
  exact pg_tup hc h hn hst
theorem call_tuple_ofK {X : Cx} {K : PySem.W.Frag} (hK : X.K = K) : CallR X (.type "tuple") (fun xs H Q => ∃ p ys, xs = [.ref p] ∧ ((SqL K H p ys ∧ ∀ l, H l = none → Q (.ref l) (upd H l (.tup ys))) ∨ (SqT K H p ys ∧ Q (.ref p) H))) := by
  subst hK
  exact call_tuple_of
def HvP (H : Hp) (v : V) (x : List Int × List Int) : Prop := ∃ t a b, v = .ref t ∧ H t = some (.tup [a, b]) ∧ TP H a x.1 ∧ TP H b x.2
theorem HvP.same {H H' : Hp} {v : V} {x : List Int × List Int} (s : Same H H') (h : HvP H v x) : HvP H' v x := by
  obtain ⟨t, a, b, rfl, h, h1, h2⟩ := h
  exact ⟨t, a, b, rfl, s _ _ h, h1.same s, h2.same s⟩
theorem HvP.butL {H H' : Hp} {r : Addr} {ys : List V} {v : V} {x : List Int × List Int} (hr : H r = some (.lst ys)) (s : SameBut r H H') (h : HvP H v x) : HvP H' v x := by
  obtain ⟨t, a, b, rfl, h, h1, h2⟩ := h
  exact ⟨t, a, b, rfl, s _ _ (ne_of h hr (fun z => nomatch z)) h, h1.butL hr s, h2.butL hr s⟩
theorem paired_ix {α β : Type} {F : α → β → Prop} : ∀ {l : List α} {m : List β} {i : Nat} {x : α}, Paired F l m → l[i]? = some x → ∃ y, m[i]? = some y ∧ F x y
  | _, _, 0, _, .cons h _, e => by
    obtain rfl := Option.some.inj e
    exact ⟨_, rfl, h⟩
  | _, _, i + 1, _, .cons _ t, e => paired_ix (i := i) t e
theorem filter_snoc {α : Type} {l : List α} {i : Nat} {a : α} (h : l[i]? = some a) (f : α → Bool) : (l.take (i + 1)).filter f = if f a = true then (l.take i).filter f ++ [a] else (l.take i).filter f := by
  rw [List.take_succ, h, List.filter_append]
  show (l.take i).filter f ++ [a].filter f = _
  rw [List.filter_cons]
  split
  · rfl
  · exact List.append_nil _
theorem map_snocG {α β : Type} {l : List α} {i : Nat} {a : α} (h : l[i]? = some a) (f : α → β) : (l.take (i + 1)).map f = (l.take i).map f ++ [f a] := by
  rw [List.take_succ, h, List.map_append]
  rfl
theorem get_co {l : List Int} {i : Nat} (h : i < l.length) : l[i]? = some (co l i) := by
  rw [co_get h]
theorem get_ints {l : List Int} {i : Nat} {y : V} (hi : i < l.length) (h : (l.map V.int)[i]? = some y) : y = .int (co l i) := by
  rw [List.getElem?_map, co_get hi] at h
  exact (Option.some.inj h).symm
end

theorem cr_minTIK {X : Cx} {K : PySem.W.Frag} (hK : X.K = K) (hc : X.calm = true) (hu : X.A.units + 64 < cLine) : CallR X (.builtin "min") (rMinTI K) := by
  subst hK
  exact cr_minTI hc hu
theorem cr_maxTIK {X : Cx} {K : PySem.W.Frag} (hK : X.K = K) (hc : X.calm = true) (hu : X.A.units + 64 < cLine) : CallR X (.builtin "max") (rMaxTI K) := by
  subst hK
  exact cr_maxTI hc hu
theorem goes_len (n : Int) (bs : List (List Int)) : (bs.filter fun b => bothH (halfA n b, halfB n b)).length = ((halves n bs).filter bothH).length := by
  unfold halves
  rw [List.filter_map, List.length_map]
  rfl
theorem half_emp {n : Int} {b : List Int} : (halfA n b).isEmpty = decide (∀ p ∈ b, ¬ p < n) ∧ (halfB n b).isEmpty = decide (∀ p ∈ b, ¬ p ≥ n) := by
  constructor
  · unfold halfA
    rw [Bool.eq_iff_iff, List.isEmpty_iff, List.filter_eq_nil_iff, decide_eq_true_eq]
    exact ⟨fun h p hp z => h p hp (decide_eq_true z), fun h p hp z => h p hp (of_decide_eq_true z)⟩
  · unfold halfB
    rw [Bool.eq_iff_iff, List.isEmpty_iff, List.map_eq_nil_iff, List.filter_eq_nil_iff, decide_eq_true_eq]
    exact ⟨fun h p hp z => h p hp (decide_eq_true z), fun h p hp z => h p hp (of_decide_eq_true z)⟩
section
variable {P : Program} {w : World} {K : PySem.W.Frag} {mg : Str → Option Value} {base : Heap}
/-! ### _law_goes -/
def spGoes : Sp := fun vs H Q _ => ∃ (v : V) (n m : Nat) (l : List Int), vs = [v] ∧ DgAt H v n m l ∧ ∀ (L : Addr) es H', Same H H' → H' L = some (.lst es) → es.length = (endT n l).length → Q (.ref L) H'
theorem ok_law_goes {f : Addr} {fd : FuncData} (F : Fun K "_law_goes" "_law_goes" s_law_goes f fd) (z_min : mg "min" = none) (z_max : mg "max" = none) : FnOk P w K mg base CX0 1 f fd ["diagram"] spGoes := by
  refine F.ok sc_law_goes (fun vs H Q E h => ?_) (fun cdv A outer s H vs Q E hr h => ?_)
  · obtain ⟨v, n, m, l, rfl, _⟩ := h
    rfl
  · obtain ⟨v, n, m, l, rfl, d, q⟩ := h
    refine ⟨_, (pss_one (ps_ret (pe_lc (own := [("block", 1)]) rfl sc_law_goes.nd (pi_tup (pe_ix ix_tup (pv 0) pe_int (fun _ _ => rfl))) (blkOk_by (N := ["diagram", "block"]) (sc := defScope s_law_goes) (by first | decide +kernel | rfl)) (fun _ _ _ _ _ => (pg_name (i := 1) sc_law_goes.nd rfl (.inl rfl))) (fun _ _ _ _ _ => pts_one (by exact L2.PW.pt (pw_and (pt_cmpR op_lt (pe_callB (cr_minTIK (K := K) rfl rfl (room64 hr)) (by rfl) z_min boot_min (pa_cons (pv 1) pa_nil)) (pe_ix (ix_tupK (K := K) rfl) (pv 0) pe_int (fun _ _ => rfl)) (nomark _)) (pw_and1 (pt_cmpR op_ge (pe_callB (cr_maxTIK (K := K) rfl rfl (room64 hr)) (by rfl) z_max boot_max (pa_cons (pv 1) pa_nil)) (pe_ix (ix_tupK (K := K) rfl) (pv 0) pe_int (fun _ _ => rfl)) (nomark _)))))) (fun _ _ _ _ _ => (pv 1))))), ?_⟩
    have szl : 20000 ≤ sizeLine := by decide
    have hl : l.length = n + m := by have := d.2.2; omega
    have zs := siz_iff.mp d.2.1
    have dg := d.dg
    obtain ⟨t, vb, rfl, ht, tb, ts, rfl, htb, pr⟩ := id d.1
    have lts := pr.length
    have few := dg.few.1
    refine ⟨_, rfl, t, _, 2, _, rfl, rfl, .inl (.inl ht), rfl, tb, rfl, ⟨_, .inl (.inl htb)⟩, fun D nD => ?_⟩
    have hDb : tb ≠ D := ne_of_none htb nD
    have htD : t ≠ D := ne_of_none ht nD
    refine lc_it walk_tup (fun i H' => SameBut D H H' ∧ ∃ es, H' D = some (.lst es) ∧ es.length = (((blocksOf l).take i).filter fun b => bothH (halfA n b, halfB n b)).length) ⟨SameBut.upd, [], upd_same, rfl⟩ (fun i H' _ hP => .inl (.inl (hP.1 _ _ hDb htb))) (fun i y H2 H3 hi hP hy => ?_) (fun H2 hP => ?_)
    · obtain ⟨sb, es, hD, le⟩ := hP
      obtain ⟨rfl, ey⟩ := hy
      obtain ⟨b, eb, ax, rfl, hax0⟩ := paired_ix pr ey
      have hax := sb _ _ (ne_of_none hax0 nD) hax0
      have lb : 0 < b.length := List.length_pos_iff.mpr (dg.ne b (List.mem_of_getElem? eb))
      have fl := List.length_filter_le (fun b => bothH (halfA n b, halfB n b)) ((blocksOf l).take i)
      rw [List.length_take] at fl
      rw [filter_snoc eb]
      have ht3 := sb _ _ htD ht
      refine ⟨rfl, ?_⟩
      refine ⟨_, rfl, ax, b, rfl, .inl (.inl hax), lb, fun mn h1 h2 => ?_⟩
      refine ⟨_, rfl, t, _, 0, _, rfl, rfl, .inl (.inl ht3), rfl, _, _, rfl, rfl, _, rfl, ?_⟩
      have eA := (half_emp (n := (n : Int)) (b := b)).1
      have eB := (half_emp (n := (n : Int)) (b := b)).2
      by_cases c1 : mn < n
      · refine if_pos_of (decide_eq_true c1) ⟨_, rfl, ax, b, rfl, .inl (.inl hax), lb, fun mx h3 h4 => ?_⟩
        refine ⟨_, rfl, t, _, 0, _, rfl, rfl, .inl (.inl ht3), rfl, _, _, rfl, rfl, _, rfl, ?_⟩
        rw [decide_eq_false (fun z : ∀ p ∈ b, ¬ p < (n : Int) => z mn h1 c1)] at eA
        by_cases c2 : mx ≥ n
        · rw [decide_eq_false (fun z : ∀ p ∈ b, ¬ p ≥ (n : Int) => z mx h3 c2)] at eB
          have cB : bothH (halfA n b, halfB n b) = true := by unfold bothH; rw [eA, eB]; rfl
          rw [if_pos cB]
          refine if_pos_of (decide_eq_true c2) ⟨_, rfl, _, hD, by omega, sb.trans SameBut.upd, _, upd_same, ?_⟩
          rw [List.length_append, List.length_append, le]
          rfl
        · have nB : ∀ p ∈ b, ¬ p ≥ (n : Int) := fun p hp z => c2 (by have := h4 p hp; omega)
          rw [decide_eq_true nB] at eB
          have cB : ¬ bothH (halfA n b, halfB n b) = true := by unfold bothH; rw [eA, eB]; exact Bool.false_ne_true
          rw [if_neg cB]
          exact if_neg_of (fun z => c2 (of_decide_eq_true z)) ⟨sb, es, hD, le⟩
      · have nA : ∀ p ∈ b, ¬ p < (n : Int) := fun p hp z => c1 (by have := h2 p hp; omega)
        rw [decide_eq_true nA] at eA
        have cB : ¬ bothH (halfA n b, halfB n b) = true := by unfold bothH; rw [eA]; exact Bool.false_ne_true
        rw [if_neg cB]
        exact if_neg_of (fun z => c1 (of_decide_eq_true z)) (if_neg_of Bool.false_ne_true ⟨sb, es, hD, le⟩)
    · obtain ⟨sb, es, hD, le⟩ := hP
      rw [lts, List.take_length, goes_len, thr_of (by omega), List.length_map] at le
      exact q D es H2 (fun b o e => sb b o (ne_of_none e nD) e) hD le
end

/-! ### dicts with two whole numbers as keys -/
abbrev KO := Int × Int
abbrev D2 := List (KO × Int)
def encK (k : KO) : List Key := [.inl k.1, .inl k.2]
def encD (d : D2) : List (List Key × V) := d.map fun kv => (encK kv.1, V.int kv.2)
def putN (d : D2) (k : KO) (v : Int) : D2 := if (d.any fun kv => decide (kv.1 = k)) = true then d.map (fun kv => if kv.1 = k then (kv.1, v) else kv) else d ++ [(k, v)]
def findN (d : D2) (k : KO) : Option Int := (d.find? fun kv => decide (kv.1 = k)).map (·.2)
def getN (d : D2) (k : KO) : Int := (findN d k).getD 0
theorem encK_inj {a b : KO} : encK a = encK b ↔ a = b := by
  obtain ⟨a1, a2⟩ := a
  obtain ⟨b1, b2⟩ := b
  unfold encK
  simp
theorem enc_any (d : D2) (k : KO) : ((encD d).any fun kv => decide (kv.1 = encK k)) = d.any fun kv => decide (kv.1 = k) := by
  unfold encD
  rw [List.any_map]
  congr 1
  funext kv
  exact decide_eq_decide.mpr encK_inj
theorem enc_put (d : D2) (k : KO) (v : Int) : putK (encD d) (encK k) (.int v) = encD (putN d k v) := by
  unfold putK putN
  rw [enc_any]
  by_cases c : (d.any fun kv => decide (kv.1 = k)) = true
  · rw [if_pos c, if_pos c]
    unfold encD
    rw [List.map_map, List.map_map]
    refine List.map_congr_left fun kv _ => ?_
    show (if encK kv.1 = encK k then (encK kv.1, V.int v) else (encK kv.1, V.int kv.2)) = (fun kv => (encK kv.1, V.int kv.2)) (if kv.1 = k then (kv.1, v) else kv)
    by_cases e : kv.1 = k
    · rw [if_pos (encK_inj.mpr e), if_pos e]
    · rw [if_neg (fun z => e (encK_inj.mp z)), if_neg e]
  · rw [if_neg c, if_neg c]
    unfold encD
    rw [List.map_append]
    rfl
theorem enc_find (d : D2) (k : KO) : valV (encD d) (encK k) = (findN d k).map V.int := by
  unfold valV encD findN
  induction d with
  | nil => rfl
  | cons a d ih =>
    rw [List.map_cons, List.find?_cons, List.find?_cons]
    by_cases e : a.1 = k
    · rw [decide_eq_true (encK_inj.mpr e), decide_eq_true e]
      rfl
    · rw [decide_eq_false (fun z => e (encK_inj.mp z)), decide_eq_false e]
      exact ih
theorem encD_len (d : D2) : (encD d).length = d.length := List.length_map ..
theorem encD_get {d : D2} {i : Nat} {kv : KO × Int} (h : d[i]? = some kv) : (encD d)[i]? = some (encK kv.1, V.int kv.2) := by
  unfold encD
  rw [List.getElem?_map, h]
  rfl
theorem putN_len (d : D2) (k : KO) (v : Int) : (putN d k v).length ≤ d.length + 1 := by
  unfold putN
  split
  · rw [List.length_map]
    omega
  · rw [List.length_append]
    exact Nat.le_refl _
/-! ### by what goes through -/
def mayS (z : Str) (j : Nat) : Bool := inFam z 0 [(List.range j).map fun i : Nat => (i : Int)]
def keysN (z : Str) (j : Nat) (k : KO) : List KO :=
  (if mayS z j = true then [k] else []) ++ (if z = "even" ∧ j % 2 = 1 then [(k.1, k.2 + 1)] else if j = 1 ∨ z = "even" ∨ z = "parts" then [(k.1 + 1, k.2)] else [])
def stepK (x : Int) (f : D2) (k : KO) : D2 := putN f k (getN f k + x)
def stepI (z : Str) (j : Nat) (ways : Int) (f : D2) (kv : KO × Int) : D2 := (keysN z j kv.1).foldl (stepK (ways * kv.2)) f
def stepJ (z : Str) (tabs : List D2) (total : Nat) (f : D2) (j : Nat) : D2 := (tabs.getD (total - j) []).foldl (stepI z j (PySem.W.mcComb ((total : Int) - 1) ((j : Int) - 1))) f
def sideT (z : Str) : Nat → List D2
  | 0 => [[((0, 0), 1)]]
  | t + 1 => sideT z t ++ [(List.range (t + 1)).foldl (fun f i => stepJ z (sideT z t) (t + 1) f (i + 1)) []]
def sideN (z : Str) (n : Nat) : D2 := (sideT z n).getD n []
theorem sideT_small : ∀ z ∈ fams, ∀ t, t < 9 → (sideT z t).length = t + 1 ∧ (∀ d ∈ sideT z t, d.length ≤ 20 ∧ ∀ kv ∈ d, 0 ≤ kv.1.1 ∧ 0 ≤ kv.1.2 ∧ kv.1.1 + kv.1.2 ≤ (t : Int)) := by decide +kernel
theorem ways_small : ∀ i, i < 8 → ∀ j, j ≤ i → 0 ≤ PySem.W.mcComb (((i + 1 : Nat) : Int) - 1) (((j + 1 : Nat) : Int) - 1) ∧ PySem.W.mcComb (((i + 1 : Nat) : Int) - 1) (((j + 1 : Nat) : Int) - 1) ≤ 1000 := by decide +kernel
def stepB (below : D2) (c : List Int) (kv : KO × Int) : List Int :=
  let ways := fac kv.1.1.toNat * fac kv.1.2.toNat * getN below kv.1
  if 0 < ways then c.set (kv.1.1 + kv.1.2).toNat (co c (kv.1.1 + kv.1.2).toNat + kv.2 * ways) else c
def byT (z : Str) (n m : Nat) : List Int := (sideN z n).foldl (stepB (sideN z m)) (List.replicate (min n m + 1) 0)
theorem sideT_vals : ∀ z ∈ fams, ∀ t, t < 9 → ∀ d ∈ sideT z t, ∀ kv ∈ d, 0 ≤ kv.2 ∧ kv.2 ≤ 1000000 := by decide +kernel
theorem fac_8 : ∀ k : Nat, k < 9 → 1 ≤ fac k ∧ fac k ≤ 40320 := by decide +kernel
theorem by_len : ∀ z ∈ fams, ∀ n, n < 9 → ∀ m, m < 9 → (byT z n m).length = min n m + 1 := by decide +kernel

theorem rep_blocks : ∀ j : Nat, j ≤ 8 → 1 ≤ j → blocksOf (List.replicate j 0) = [(List.range j).map fun i : Nat => (i : Int)] := by
  intro j h1 h2
  have : ∀ j : Nat, j < 9 → 1 ≤ j → blocksOf (List.replicate j 0) = [(List.range j).map fun i : Nat => (i : Int)] := by decide +kernel
  exact this j (by omega) h2
section
variable {P : Program} {w : World} {K : PySem.W.Frag} {mg : Str → Option Value} {base : Heap}
/-! ### _may_stay, _keys_with -/
def spStay : Sp := fun vs H Q _ => ∃ (z : Str) (j : Nat), vs = [.str z, .int (j : Int)] ∧ z ∈ fams ∧ 1 ≤ j ∧ j ≤ 8 ∧ ∀ H', Same H H' → Q (.bl (mayS z j)) H'
theorem ok_may_stay_ {f CF CD : Addr} {fd : FuncData} (F : Fun K "_may_stay" "_may_stay" s_may_stay_ f fd) (z_tuple : mg "tuple" = none) (z_range : mg "range" = none)
    {a_is_in : Addr} {fd_is_in : FuncData} (G_is_in : FnOk P w K mg base (L2N.CX P w) 4 a_is_in fd_is_in ["family", "diagram"] (spIsIn CF CD)) (g_is_in : mg "is_in" = some (.ref a_is_in)) (k_is_in : PySem.W.keepIn K (.ref a_is_in) = true) (b_is_in : Binds K fd_is_in ["family", "diagram"] []) :
    FnOk P w K mg base (L2N.CX P w) 5 f fd ["family", "j"] spStay := by
  refine F.okXN sc_may_stay_ (fun vs H Q E h => ?_) (fun cdv A outer s H vs Q E hr h => ?_)
  · obtain ⟨z, j, rfl, _⟩ := h
    rfl
  · obtain ⟨z, j, rfl, mz, j1, j8, q⟩ := h
    refine ⟨_, (pss_one (ps_ret (pe_call G_is_in (hr.mono (by decide)) rfl g_is_in k_is_in b_is_in .nil (L2N.passes_call (L2N.takes_of rfl rfl rfl rfl) (fun _ _ _ _ h => h)) (pa_cons (pv 0) (pa_cons (pe_tup (pa_cons pe_int (pa_cons (pv 1) (pa_cons (pe_tup (pa_cons (pe_tupRg rfl rfl z_tuple (prg_1 rfl z_range (pv 1))) pa_nil)) pa_nil)))) pa_nil))))), ?_⟩
    have rp := rep_blocks j j8 j1
    refine ⟨_, rfl, _, rfl, _, rfl, _, rfl, RgOk.of_le (by omega) (by omega) (by omega) (by omega), fun p1 np1 => ?_⟩
    have w1 := same_upd (o := .tup (rgV 0 (j : Int))) np1
    refine ⟨(by show 1 ≤ sizeLine; decide), fun p2 np2 => ?_⟩
    have w2 := same_upd (o := .tup [.ref p1]) np2
    refine ⟨(by show 3 ≤ sizeLine; decide), fun p3 np3 => ?_⟩
    have w3 := same_upd (o := .tup [.int 0, .int (j : Int), .ref p2]) np3
    have er : rgV 0 (j : Int) = ((List.range j).map fun i : Nat => (i : Int)).map V.int := by
      unfold rgV
      rw [List.map_map, show ((j : Int) - 0).toNat = j by omega]
      refine List.map_congr_left fun i _ => ?_
      show V.int (0 + (i : Int)) = V.int (i : Int)
      rw [Int.zero_add]
    have ad : DgAt (upd (upd (upd H p1 (.tup (rgV 0 (j : Int)))) p2 (.tup [.ref p1])) p3 (.tup [.int 0, .int (j : Int), .ref p2])) (.ref p3) 0 (j : Int) (List.replicate j 0) :=
      ⟨by rw [rp]; exact ⟨p3, .ref p2, rfl, upd_same, p2, _, rfl, w3 _ _ upd_same, .cons ⟨p1, rfl, by rw [← er]; exact (Same.trans w2 w3) _ _ upd_same⟩ .nil⟩, siz_iff.mpr (by omega), by rw [List.length_replicate]; omega⟩
    refine ⟨z, .ref p3, 0, (j : Int), _, rfl, ad.1, ad.ok, fun nf => absurd mz nf, fun _ nd => absurd ad.dg nd, fun _ _ H' s' => ?_⟩
    rw [rp]
    exact q H' (Same.trans w1 (Same.trans w2 (Same.trans w3 s')))
def KoP (H : Hp) (v : V) (k : KO) : Prop := ∃ t, v = .ref t ∧ H t = some (.tup [.int k.1, .int k.2])
theorem KoP.same {H H' : Hp} {v : V} {k : KO} (s : Same H H') (h : KoP H v k) : KoP H' v k := by
  obtain ⟨t, e, h⟩ := h
  exact ⟨t, e, s _ _ h⟩
theorem KoP.butL {H H' : Hp} {L : Addr} {ys : List V} {v : V} {k : KO} (hL : H L = some (.lst ys)) (s : SameBut L H H') (h : KoP H v k) : KoP H' v k := by
  obtain ⟨t, e, h⟩ := h
  exact ⟨t, e, s _ _ (ne_of h hL (fun z => nomatch z)) h⟩
def spKeys : Sp := fun vs H Q _ => ∃ (z : Str) (j : Nat) (k : KO), vs = [.str z, .int (j : Int), .int k.1, .int k.2] ∧ z ∈ fams ∧ 1 ≤ j ∧ j ≤ 8 ∧ ∀ (L : Addr) es H', Same H H' → H L = none → H' L = some (.lst es) → Paired (KoP H') es (keysN z j k) → Q (.ref L) H'
theorem ok_keys_with_ {f : Addr} {fd : FuncData} (F : Fun K "_keys_with" "_keys_with" s_keys_with_ f fd)
    {a_may_stay_ : Addr} {fd_may_stay_ : FuncData} (G_may_stay_ : FnOk P w K mg base (L2N.CX P w) 5 a_may_stay_ fd_may_stay_ ["family", "j"] spStay) (g_may_stay_ : mg "_may_stay" = some (.ref a_may_stay_)) (k_may_stay_ : PySem.W.keepIn K (.ref a_may_stay_) = true) (b_may_stay_ : Binds K fd_may_stay_ ["family", "j"] []) :
    FnOk P w K mg base (L2N.CX P w) 6 f fd ["family", "j", "evens", "odds"] spKeys := by
  refine F.okXN sc_keys_with_ (fun vs H Q E h => ?_) (fun cdv A outer s H vs Q E hr h => ?_)
  · obtain ⟨z, j, k, rfl, _⟩ := h
    rfl
  · obtain ⟨z, j, k, rfl, mz, j1, j8, q⟩ := h
    refine ⟨_, (Evl.pss_cut (ps_set (i := 4) sc_keys_with_.nd rfl (.inl rfl) (pe_ifExp (pt_val (pe_call G_may_stay_ (hr.mono (by decide)) rfl g_may_stay_ k_may_stay_ b_may_stay_ .nil (L2N.passes_call (L2N.takes_of rfl rfl rfl rfl) (fun _ _ _ _ h => h)) (pa_cons (pv 0) (pa_cons (pv 1) pa_nil)))) (pe_lst (pa_cons (pe_tup (pa_cons (pv 2) (pa_cons (pv 3) pa_nil))) pa_nil)) (pe_lst pa_nil)))
  (pss_cons (ps_if (L2.PW.pt (pw_and (pt_cmpR op_eq (pv 0) pe_str (nomark _)) (pw_and1 (pt_cmpR op_eq (pe_op op_mod (pv 1) pe_int) pe_int (nomark _))))) (pss_one (ps_expr (pe_bm PySem.F.plainAttrs_list PySem.F.slot_list_append PySem.F.type_list_append mt_append (pv 4) (pa_cons (pe_tup (pa_cons (pv 2) (pa_cons (pe_op op_add (pv 3) pe_int) pa_nil))) pa_nil)))) (pss_one (ps_if (L2.PW.pt (pw_or (pt_cmpR op_eq (pv 1) pe_int (nomark _)) (pw_or1 (pt_cmpR op_in_seq (pv 0) (pe_tup (pa_cons pe_str (pa_cons pe_str pa_nil))) (by with_unfolding_all rfl))))) (pss_one (ps_expr (pe_bm PySem.F.plainAttrs_list PySem.F.slot_list_append PySem.F.type_list_append mt_append (pv 4) (pa_cons (pe_tup (pa_cons (pe_op op_add (pv 2) pe_int) (pa_cons (pv 3) pa_nil))) pa_nil)))) pss_nil)))
  (pss_one (ps_ret (pv 4))))), ?_⟩
    refine ⟨fun σ H' => ∃ (L : Addr) (es : List V), σ = [some (.str z), some (.int (j : Int)), some (.int k.1), some (.int k.2), some (.ref L)] ∧ Same H H' ∧ H L = none ∧ H' L = some (.lst es) ∧ Paired (KoP H') es (if mayS z j = true then [k] else []), ?_, ?_⟩
    · refine ⟨_, rfl, _, rfl, z, j, rfl, mz, j1, j8, fun H1 s1 => ?_⟩
      have fr : ∀ {H2 : Hp} {L : Addr}, Same H H2 → H2 L = none → H L = none := fun {H2 L} s n => by
        cases e : H L with
        | none => rfl
        | some o => rw [s _ _ e] at n; exact nomatch n
      refine ⟨_, rfl, ?_⟩
      cases hm : mayS z j with
      | true =>
        refine if_pos_of rfl ⟨_, rfl, _, rfl, (by show 2 ≤ sizeLine; decide), fun p np => ⟨(by show 1 ≤ sizeLine; decide), fun L nL => ?_⟩⟩
        have w1 := same_upd (o := .tup [.int k.1, .int k.2]) np
        have w2 := same_upd (o := .lst [.ref p]) nL
        exact ⟨L, _, rfl, Same.trans s1 (Same.trans w1 w2), fr (Same.trans s1 w1) nL, upd_same, .cons ⟨p, rfl, w2 _ _ upd_same⟩ .nil⟩
      | false =>
        refine if_neg_of Bool.false_ne_true ⟨(by show 0 ≤ sizeLine; decide), fun L nL => ?_⟩
        exact ⟨L, _, rfl, Same.trans s1 (same_upd nL), fr s1 nL, upd_same, .nil⟩
    rintro σ H1 ⟨L, es, rfl, s1, nL, hL, pe⟩
    have les : es.length ≤ 1 := by
      have := pe.length
      cases hm : mayS z j with
      | true => rw [hm, if_pos rfl] at this; exact Nat.le_of_eq this
      | false => rw [hm, if_neg Bool.false_ne_true] at this; exact Nat.le_trans (Nat.le_of_eq this) (Nat.zero_le _)
    have app : ∀ (H2 : Hp), Same H1 H2 → ∀ (p : Addr) (x : KO), H2 p = none → H2 L = some (.lst es) → Same H (upd (upd H2 p (.tup [.int x.1, .int x.2])) L (.lst (es ++ [.ref p]))) ∧ (upd (upd H2 p (.tup [.int x.1, .int x.2])) L (.lst (es ++ [.ref p]))) L = some (.lst (es ++ [.ref p])) ∧ Paired (KoP (upd (upd H2 p (.tup [.int x.1, .int x.2])) L (.lst (es ++ [.ref p])))) (es ++ [.ref p]) ((if mayS z j = true then [k] else []) ++ [x]) ∧ upd H2 p (.tup [.int x.1, .int x.2]) L = some (.lst es) := fun H2 s2 p x np hL2 => by
      have w1 := same_upd (o := .tup [.int x.1, .int x.2]) np
      have hL1 := w1 _ _ hL2
      have sD := SameBut.upd (H := upd H2 p (.tup [.int x.1, .int x.2])) (a := L) (o := .lst (es ++ [.ref p]))
      refine ⟨fun b o e => ?_, upd_same, paired_add (KoP.butL hL1 sD ⟨p, rfl, upd_same⟩) (Paired.mapP pe fun _ _ h => KoP.butL hL1 sD ((h.same s2).same w1)), hL1⟩
      have e1 := w1 _ _ (s2 _ _ (s1 _ _ e))
      rw [upd_ne (fun z => by rw [z, nL] at e; exact nomatch e)]
      exact e1
    have e0 : (if mayS z j = true then [k] else []) ++ [] = (if mayS z j = true then [k] else []) := List.append_nil _
    refine ⟨_, rfl, rfl, _, rfl, ?_⟩
    by_cases c : z = "even" ∧ j % 2 = 1
    · refine if_pos_of (decide_eq_true (congrArg V.str c.1)) ?_
      refine ⟨_, rfl, _, _, rfl, rfl, (show (0 : Int) < 2 by decide), rfl, _, rfl, if_pos_of (decide_eq_true (congrArg V.int (by omega))) ?_⟩
      refine ⟨_, rfl, .inl ⟨rfl, _, .inl (.inl hL)⟩, _, rfl, _, rfl, _, _, rfl, rfl, (by show 2 ≤ sizeLine; decide), fun p np => ?_⟩
      obtain ⟨a1, a2, a3, a4⟩ := app H1 (Same.refl _) p (k.1, k.2 + 1) np hL
      refine ⟨L, es, .ref p, rfl, rfl, a4, Nat.lt_of_le_of_lt les (by decide), ?_⟩
      refine ⟨_, rfl, q L _ _ a1 nL a2 ?_⟩
      unfold keysN
      rw [if_pos c]
      exact a3
    · by_cases ze : z = "even"
      · refine if_pos_of (decide_eq_true (congrArg V.str ze)) ?_
        refine ⟨_, rfl, _, _, rfl, rfl, (show (0 : Int) < 2 by decide), rfl, _, rfl, if_neg_of (fun h => c ⟨ze, by have := V.int.inj (of_decide_eq_true h); omega⟩) ?_⟩
        refine ⟨_, rfl, rfl, _, rfl, ?_⟩
        by_cases je : j = 1
        · refine if_pos_of (decide_eq_true (by rw [je]; rfl)) (if_pos_of rfl ?_)
          refine ⟨_, rfl, .inl ⟨rfl, _, .inl (.inl hL)⟩, _, rfl, _, _, rfl, rfl, _, rfl, (by show 2 ≤ sizeLine; decide), fun p np => ?_⟩
          obtain ⟨a1, a2, a3, a4⟩ := app H1 (Same.refl _) p (k.1 + 1, k.2) np hL
          refine ⟨L, es, .ref p, rfl, rfl, a4, Nat.lt_of_le_of_lt les (by decide), ?_⟩
          refine ⟨_, rfl, q L _ _ a1 nL a2 ?_⟩
          unfold keysN
          rw [if_neg c, if_pos (show j = 1 ∨ z = "even" ∨ z = "parts" from .inl je)]
          exact a3
        · refine if_neg_of (fun h => je (by have := V.int.inj (of_decide_eq_true h); omega)) ?_
          refine ⟨_, rfl, (by show 2 ≤ sizeLine; decide), fun pt npt => ?_⟩
          have wt := same_upd (o := .tup [.str "even", .str "parts"]) npt
          refine ⟨pt, (["even", "parts"] : List Str).map V.str, rfl, .inr (.inl (.inl upd_same)), rfl, rfl, ?_⟩
          rw [show inV (.str z) ((["even", "parts"] : List Str).map V.str) = decide (z ∈ (["even", "parts"] : List Str)) from inV_str z _]
          refine ⟨_, rfl, ?_⟩
          by_cases zi : z ∈ (["even", "parts"] : List Str)
          · refine if_pos_of (decide_eq_true zi) ?_
            refine ⟨_, rfl, .inl ⟨rfl, _, .inl (.inl (wt _ _ hL))⟩, _, rfl, _, _, rfl, rfl, _, rfl, (by show 2 ≤ sizeLine; decide), fun p np => ?_⟩
            obtain ⟨a1, a2, a3, a4⟩ := app _ wt p (k.1 + 1, k.2) np (wt _ _ hL)
            refine ⟨L, es, .ref p, rfl, rfl, a4, Nat.lt_of_le_of_lt les (by decide), ?_⟩
            refine ⟨_, rfl, q L _ _ a1 nL a2 ?_⟩
            unfold keysN
            rw [if_neg c, if_pos (show j = 1 ∨ z = "even" ∨ z = "parts" from .inr (by simpa using zi))]
            exact a3
          · refine if_neg_of (fun h => zi (of_decide_eq_true h)) ?_
            refine ⟨_, rfl, q L es _ (Same.trans s1 wt) nL (wt _ _ hL) ?_⟩
            unfold keysN
            rw [if_neg c, if_neg (show ¬ (j = 1 ∨ z = "even" ∨ z = "parts") from fun h => h.elim je (fun h => zi (by simpa using h))), e0]
            exact Paired.mapP pe fun _ _ h => h.same wt
      · refine if_neg_of (fun h => ze (V.str.inj (of_decide_eq_true h))) (if_neg_of Bool.false_ne_true ?_)
        refine ⟨_, rfl, rfl, _, rfl, ?_⟩
        by_cases je : j = 1
        · refine if_pos_of (decide_eq_true (by rw [je]; rfl)) (if_pos_of rfl ?_)
          refine ⟨_, rfl, .inl ⟨rfl, _, .inl (.inl hL)⟩, _, rfl, _, _, rfl, rfl, _, rfl, (by show 2 ≤ sizeLine; decide), fun p np => ?_⟩
          obtain ⟨a1, a2, a3, a4⟩ := app H1 (Same.refl _) p (k.1 + 1, k.2) np hL
          refine ⟨L, es, .ref p, rfl, rfl, a4, Nat.lt_of_le_of_lt les (by decide), ?_⟩
          refine ⟨_, rfl, q L _ _ a1 nL a2 ?_⟩
          unfold keysN
          rw [if_neg c, if_pos (show j = 1 ∨ z = "even" ∨ z = "parts" from .inl je)]
          exact a3
        · refine if_neg_of (fun h => je (by have := V.int.inj (of_decide_eq_true h); omega)) ?_
          refine ⟨_, rfl, (by show 2 ≤ sizeLine; decide), fun pt npt => ?_⟩
          have wt := same_upd (o := .tup [.str "even", .str "parts"]) npt
          refine ⟨pt, (["even", "parts"] : List Str).map V.str, rfl, .inr (.inl (.inl upd_same)), rfl, rfl, ?_⟩
          rw [show inV (.str z) ((["even", "parts"] : List Str).map V.str) = decide (z ∈ (["even", "parts"] : List Str)) from inV_str z _]
          refine ⟨_, rfl, ?_⟩
          by_cases zi : z ∈ (["even", "parts"] : List Str)
          · refine if_pos_of (decide_eq_true zi) ?_
            refine ⟨_, rfl, .inl ⟨rfl, _, .inl (.inl (wt _ _ hL))⟩, _, rfl, _, _, rfl, rfl, _, rfl, (by show 2 ≤ sizeLine; decide), fun p np => ?_⟩
            obtain ⟨a1, a2, a3, a4⟩ := app _ wt p (k.1 + 1, k.2) np (wt _ _ hL)
            refine ⟨L, es, .ref p, rfl, rfl, a4, Nat.lt_of_le_of_lt les (by decide), ?_⟩
            refine ⟨_, rfl, q L _ _ a1 nL a2 ?_⟩
            unfold keysN
            rw [if_neg c, if_pos (show j = 1 ∨ z = "even" ∨ z = "parts" from .inr (by simpa using zi))]
            exact a3
          · refine if_neg_of (fun h => zi (of_decide_eq_true h)) ?_
            refine ⟨_, rfl, q L es _ (Same.trans s1 wt) nL (wt _ _ hL) ?_⟩
            unfold keysN
            rw [if_neg c, if_neg (show ¬ (j = 1 ∨ z = "even" ∨ z = "parts") from fun h => h.elim je (fun h => zi (by simpa using h))), e0]
            exact Paired.mapP pe fun _ _ h => h.same wt
end

def TabP (H0 : Hp) (C : Addr) (H : Hp) (v : V) (d : D2) : Prop := ∃ a, v = .ref a ∧ a ≠ C ∧ H0 a = none ∧ H a = some (.dT (encD d))
theorem sideT_len : ∀ (z : Str) (t : Nat), (sideT z t).length = t + 1
  | _, 0 => rfl
  | z, t + 1 => by
    show (sideT z t ++ [_]).length = _
    rw [List.length_append, sideT_len z t]
    rfl
theorem sideT_get (z : Str) : ∀ (t k : Nat), k ≤ t → (sideT z t)[k]? = some (sideN z k)
  | 0, k, h => by
    obtain rfl : k = 0 := by omega
    rfl
  | t + 1, k, h => by
    by_cases c : k = t + 1
    · subst c
      unfold sideN
      rw [List.getD_eq_getElem?_getD]
      have l : t + 1 < (sideT z (t + 1)).length := by rw [sideT_len]; omega
      rw [List.getElem?_eq_getElem l]
      rfl
    · have ih := sideT_get z t k (by omega)
      show (sideT z t ++ [_])[k]? = _
      rw [List.getElem?_append_left (by rw [sideT_len]; omega)]
      exact ih
theorem stepK_len (x : Int) (f : D2) (k : KO) : (stepK x f k).length ≤ f.length + 1 := putN_len _ _ _
theorem foldK_len (x : Int) : ∀ (ks : List KO) (f : D2), (ks.foldl (stepK x) f).length ≤ f.length + ks.length
  | [], f => Nat.le_refl _
  | k :: ks, f => by
    rw [List.foldl_cons]
    have := foldK_len x ks (stepK x f k)
    have := stepK_len x f k
    rw [List.length_cons]
    omega
theorem keysN_len (z : Str) (j : Nat) (k : KO) : (keysN z j k).length ≤ 2 := by
  unfold keysN
  rw [List.length_append]
  have a : (if mayS z j = true then [k] else []).length ≤ 1 := by split <;> simp
  have b : (if z = "even" ∧ j % 2 = 1 then [(k.1, k.2 + 1)] else if j = 1 ∨ z = "even" ∨ z = "parts" then [(k.1 + 1, k.2)] else []).length ≤ 1 := by
    split
    · simp
    · split <;> simp
  omega
theorem foldI_len (z : Str) (j : Nat) (ways : Int) : ∀ (ks : D2) (f : D2), (ks.foldl (stepI z j ways) f).length ≤ f.length + 2 * ks.length
  | [], f => Nat.le_refl _
  | k :: ks, f => by
    rw [List.foldl_cons]
    have h1 := foldI_len z j ways ks (stepI z j ways f k)
    have h2 : (stepI z j ways f k).length ≤ f.length + 2 := Nat.le_trans (foldK_len _ _ _) (by have := keysN_len z j k.1; omega)
    rw [List.length_cons]
    omega
theorem foldJ_len (z : Str) (tabs : List D2) (total : Nat) (ht : ∀ d ∈ tabs, d.length ≤ 20) : ∀ (js : List Nat) (f : D2), (js.foldl (fun f i => stepJ z tabs total f (i + 1)) f).length ≤ f.length + 40 * js.length
  | [], f => Nat.le_refl _
  | j :: js, f => by
    rw [List.foldl_cons]
    have h1 := foldJ_len z tabs total ht js (stepJ z tabs total f (j + 1))
    have h2 : (stepJ z tabs total f (j + 1)).length ≤ f.length + 40 := by
      refine Nat.le_trans (foldI_len _ _ _ _ _) ?_
      have : (tabs.getD (total - (j + 1)) []).length ≤ 20 := by
        rw [List.getD_eq_getElem?_getD]
        cases e : tabs[total - (j + 1)]? with
        | none => exact Nat.zero_le _
        | some d => exact ht d (List.mem_of_getElem? e)
      omega
    rw [List.length_cons]
    omega
section
variable {P : Program} {w : World} {K : PySem.W.Frag} {mg : Str → Option Value} {base : Heap}
/-! ### _side_counts -/
def spSide : Sp := fun vs H Q _ => ∃ (z : Str) (n : Nat), vs = [.str z, .int (n : Int)] ∧ z ∈ fams ∧ n ≤ 8 ∧ ∀ (d : Addr) H', Same H H' → H d = none → H' d = some (.dT (encD (sideN z n))) → Q (.ref d) H'
theorem ok_side_counts_ {f : Addr} {fd : FuncData} (F : Fun K "_side_counts" "_side_counts" s_side_counts_ f fd) (z_range : mg "range" = none) (m_comb : mg "comb" = some (.builtin "math.comb"))
    {a_keys_with_ : Addr} {fd_keys_with_ : FuncData} (G_keys_with_ : FnOk P w K mg base (L2N.CX P w) 6 a_keys_with_ fd_keys_with_ ["family", "j", "evens", "odds"] spKeys) (g_keys_with_ : mg "_keys_with" = some (.ref a_keys_with_)) (k_keys_with_ : PySem.W.keepIn K (.ref a_keys_with_) = true) (b_keys_with_ : Binds K fd_keys_with_ ["family", "j", "evens", "odds"] []) :
    FnOk P w K mg base (L2N.CX P w) 7 f fd ["family", "size"] spSide := by
  refine F.okXN sc_side_counts_ (fun vs H Q E h => ?_) (fun cdv A outer s H vs Q E hr h => ?_)
  · obtain ⟨z, n, rfl, _⟩ := h
    rfl
  · obtain ⟨z, n, rfl, mz, n8, q⟩ := h
    refine ⟨_, (pss_cons (ps_set (i := 2) sc_side_counts_.nd rfl (.inl rfl) (pe_lst (pa_cons (pe_dispT1 (hu_of hr) (pe_tup (pa_cons pe_int (pa_cons pe_int pa_nil))) pe_int) pa_nil)))
  (pss_cons (ps_for (passes_of rfl) rfl (pi_range2 rfl z_range (pa_cons pe_int (pa_cons (pe_op op_add (pv 1) pe_int) pa_nil))) (pg_name (i := 3) sc_side_counts_.nd rfl (.inl rfl)) (Evl.pss_cut (ps_set (i := 4) sc_side_counts_.nd rfl (.inl rfl) pe_dnewT)
  (pss_cons (ps_for (passes_of rfl) rfl (pi_range2 rfl z_range (pa_cons pe_int (pa_cons (pe_op op_add (pv 3) pe_int) pa_nil))) (pg_name (i := 5) sc_side_counts_.nd rfl (.inl rfl)) (Evl.pss_cut (ps_set (i := 6) sc_side_counts_.nd rfl (.inl rfl) (pe_callBfun cr_comb rfl m_comb (pa_cons (pe_op op_sub (pv 3) pe_int) (pa_cons (pe_op op_sub (pv 5) pe_int) pa_nil))))
  (pss_one (ps_lock (ps_for (passes_of rfl) rfl (pi_itemsT (pe_ix ix_list (pv 2) (pe_op op_sub (pv 3) (pv 5)) (fun _ _ => rfl))) (pg_tup rfl (pgs_cons (pg_tup rfl (pgs_cons (pg_name (i := 7) sc_side_counts_.nd rfl (.inl rfl)) (pgs_cons (pg_name (i := 8) sc_side_counts_.nd rfl (.inl rfl)) pgs_nil))) (pgs_cons (pg_name (i := 9) sc_side_counts_.nd rfl (.inl rfl)) pgs_nil))) (pss_one (ps_for (passes_of rfl) rfl (pi_list (pe_call G_keys_with_ (hr.mono (by decide)) rfl g_keys_with_ k_keys_with_ b_keys_with_ .nil (L2N.passes_call (L2N.takes_of rfl rfl rfl rfl) (fun _ _ _ _ h => h)) (pa_cons (pv 0) (pa_cons (pv 5) (pa_cons (pv 7) (pa_cons (pv 8) pa_nil)))))) (pg_name (i := 10) sc_side_counts_.nd rfl (.inl rfl)) (pss_one (ps_dput (hu_of hr) (pv 4) (pv 10) (pe_op op_add (pe_dget2 (hu_of hr) (pv 4) (pv 10) pe_int ⟨by rfl, by rfl, by rfl, by rfl⟩) (pe_op op_mul (pv 6) (pv 9))) rfl)))))))))
  (pss_one (ps_expr (pe_bm PySem.F.plainAttrs_list PySem.F.slot_list_append PySem.F.type_list_append mt_append (pv 2) (pa_cons (pv 4) pa_nil)))))))
  (pss_one (ps_ret (pe_ix ix_list (pv 2) (pv 1) (fun _ _ => rfl)))))), ?_⟩
    have szl : 20000 ≤ sizeLine := by decide
    have fr : ∀ {H2 : Hp} {L : Addr}, Same H H2 → H2 L = none → H L = none := fun {H2 L} s n => by
      cases e : H L with
      | none => rfl
      | some o => rw [s _ _ e] at n; exact nomatch n
    refine fun p0 np0 => ⟨(by show 2 ≤ sizeLine; decide), fun p1 np1 => ?_⟩
    have w0 := same_upd (o := .dT []) np0
    have w1 := same_upd (o := .tup [.int 0, .int 0]) np1
    have n01 : p1 ≠ p0 := fun e => by rw [e, upd_same] at np1; exact nomatch np1
    have h0 : (upd (upd H p0 (.dT [])) p1 (.tup [.int 0, .int 0])) p0 = some (.dT []) := w1 _ _ upd_same
    refine ⟨encK (0, 0), p1, rfl, upd_same, h0, ?_⟩
    refine ⟨(by show 1 ≤ sizeLine; decide), fun C nC => ?_⟩
    have s2 : Same H (upd (upd (upd H p0 (.dT [])) p1 (.tup [.int 0, .int 0])) p0 (.dT [(encK (0, 0), .int 1)])) := fun b o e => by
      rw [upd_ne (fun z => by rw [z, np0] at e; exact nomatch e)]
      exact w1 _ _ (w0 _ _ e)
    have w3 := same_upd (o := .lst [.ref p0]) nC
    have sC := Same.trans s2 w3
    have n0C : p0 ≠ C := fun e => by rw [← e, upd_same] at nC; exact nomatch nC
    have HC : H C = none := fr s2 nC
    have t0 : ∃ ds, upd (upd (upd (upd H p0 (.dT [])) p1 (.tup [.int 0, .int 0])) p0 (.dT [(encK (0, 0), .int 1)])) C (.lst [.ref p0]) C = some (.lst ds) ∧ Paired (TabP H C (upd (upd (upd (upd H p0 (.dT [])) p1 (.tup [.int 0, .int 0])) p0 (.dT [(encK (0, 0), .int 1)])) C (.lst [.ref p0]))) ds (sideT z 0) := ⟨_, upd_same, .cons ⟨p0, rfl, n0C, np0, w3 _ _ upd_same⟩ .nil⟩
    refine ⟨_, rfl, _, _, rfl, rfl, ?_⟩
    refine ⟨1, (n : Int) + 1, rfl, ⟨by omega, by omega, by omega, by omega⟩, ?_⟩
    rw [show ((n : Int) + 1 - 1).toNat = n by omega]
    generalize upd (upd (upd (upd H p0 (.dT [])) p1 (.tup [.int 0, .int 0])) p0 (.dT [(encK (0, 0), .int 1)])) C (.lst [.ref p0]) = HC0 at sC t0 ⊢
    refine for_range (lo := 1) (n := n) (fun i σ H' => ∃ (v3 v4 v5 v6 v7 v8 v9 v10 : Option V), σ = [some (.str z), some (.int (n : Int)), some (.ref C), v3, v4, v5, v6, v7, v8, v9, v10] ∧ Same H H' ∧ ∃ ds, H' C = some (.lst ds) ∧ Paired (TabP H C H') ds (sideT z i))
      ⟨none, none, none, none, none, none, none, none, rfl, sC, t0⟩ (fun i σ H1 hi hP => ?_) (fun σ H1 hP => ?_)
    · obtain ⟨v3, v4, v5, v6, v7, v8, v9, v10, rfl, s1, ds, hC, pd⟩ := hP
      obtain ⟨lt, small⟩ := sideT_small z mz i (by omega)
      have lds := pd.length
      rw [lt] at lds
      refine ⟨fun σ H' => ∃ fo, σ = [some (.str z), some (.int (n : Int)), some (.ref C), some (.int (1 + (i : Int))), some (.ref fo), v5, v6, v7, v8, v9, v10] ∧ H1 fo = none ∧ SameBut fo H1 H' ∧ H' fo = some (.dT []), ?_, ?_⟩
      · exact fun fo nfo => ⟨fo, rfl, nfo, SameBut.upd, upd_same⟩
      rintro σ H2 ⟨fo, rfl, nfo, sb2, hfo⟩
      refine ⟨_, rfl, _, _, rfl, rfl, 1, (1 + (i : Int)) + 1, rfl, ⟨by omega, by omega, by omega, by omega⟩, ?_⟩
      rw [show ((1 + (i : Int)) + 1 - 1).toNat = i + 1 by omega]
      refine for_range (lo := 1) (n := i + 1) (fun j σ H' => ∃ (v5 v6 v7 v8 v9 v10 : Option V), σ = [some (.str z), some (.int (n : Int)), some (.ref C), some (.int (1 + (i : Int))), some (.ref fo), v5, v6, v7, v8, v9, v10] ∧ SameBut fo H1 H' ∧ H' fo = some (.dT (encD ((List.range j).foldl (fun f i' => stepJ z (sideT z i) (i + 1) f (i' + 1)) []))))
        ⟨v5, v6, v7, v8, v9, v10, rfl, sb2, hfo⟩ (fun j σ H3 hj hP => ?_) (fun σ H3 hP => ?_)
      · obtain ⟨v5, v6, v7, v8, v9, v10, rfl, sb3, hfo3⟩ := hP
        refine ⟨fun σ H' => σ = [some (.str z), some (.int (n : Int)), some (.ref C), some (.int (1 + (i : Int))), some (.ref fo), some (.int ((j + 1 : Nat) : Int)), some (.int (PySem.W.mcComb (((i + 1 : Nat) : Int) - 1) (((j + 1 : Nat) : Int) - 1))), v7, v8, v9, v10] ∧ H' = H3, ?_, ?_⟩
        · refine ⟨_, rfl, _, _, rfl, rfl, _, rfl, _, _, rfl, rfl, _, _, rfl, by omega, by omega, by omega, ?_⟩
          rw [show (1 + (i : Int)) - 1 = ((i + 1 : Nat) : Int) - 1 by omega, show (1 + (j : Int)) = ((j + 1 : Nat) : Int) by omega]
          exact ⟨rfl, rfl⟩
        rintro σ H4 ⟨rfl, rfl⟩
        have hx : i - j ≤ i := Nat.sub_le _ _
        obtain ⟨v, ev, tv⟩ : ∃ v, ds[i - j]? = some v ∧ TabP H C H1 v (sideN z (i - j)) := by
          have hl : i - j < ds.length := by omega
          have e := List.getElem?_eq_getElem hl
          obtain ⟨d, ed, td⟩ := paired_ix pd e
          rw [sideT_get z i (i - j) hx] at ed
          obtain rfl := Option.some.inj ed
          exact ⟨_, e, td⟩
        have eJ : stepJ z (sideT z i) (i + 1) ((List.range j).foldl (fun f i' => stepJ z (sideT z i) (i + 1) f (i' + 1)) []) (j + 1) = (sideN z (i - j)).foldl (stepI z (j + 1) (PySem.W.mcComb (((i + 1 : Nat) : Int) - 1) (((j + 1 : Nat) : Int) - 1))) ((List.range j).foldl (fun f i' => stepJ z (sideT z i) (i + 1) f (i' + 1)) []) := by
          unfold stepJ
          rw [show i + 1 - (j + 1) = i - j by omega, List.getD_eq_getElem?_getD, sideT_get z i (i - j) hx]
          rfl
        have lf0 := foldJ_len z (sideT z i) (i + 1) (fun d hd => (small d hd).1) (List.range j) []
        rw [List.length_range] at lf0
        have ltab : (sideN z (i - j)).length ≤ 20 := (small _ (List.mem_of_getElem? (sideT_get z i (i - j) hx))).1
        have eS : (List.range (j + 1)).foldl (fun f i' => stepJ z (sideT z i) (i + 1) f (i' + 1)) [] = stepJ z (sideT z i) (i + 1) ((List.range j).foldl (fun f i' => stepJ z (sideT z i) (i + 1) f (i' + 1)) []) (j + 1) := by rw [List.range_succ, List.foldl_append]; rfl
        rw [eS, eJ]
        generalize (List.range j).foldl (fun f i' => stepJ z (sideT z i) (i + 1) f (i' + 1)) [] = f0 at *
        have wb := ways_small i (by omega) j (by omega)
        generalize PySem.W.mcComb (((i + 1 : Nat) : Int) - 1) (((j + 1 : Nat) : Int) - 1) = ways at *
        generalize sideN z (i - j) = tab at *
        obtain ⟨a, rfl, aC, ha0, ha⟩ := tv
        have hfa : a ≠ fo := fun e => by rw [e, nfo] at ha; exact nomatch ha
        have hfC : C ≠ fo := fun e => by rw [e, nfo] at hC; exact nomatch hC
        have ha3 := sb3 _ _ hfa ha
        have hC3 := sb3 _ _ hfC hC
        refine ⟨a, .dT (encD tab), ha3, True.intro, fun od => ?_⟩
        refine ⟨_, rfl, _, rfl, _, rfl, _, _, rfl, rfl, C, ds, ((i - j : Nat) : Int), .ref a, rfl, congrArg V.int (by omega), .inl (.inl (by rw [upd_ne (Ne.symm aC)]; exact hC3)), atI_nat ev, a, od, encD tab, rfl, upd_same, ?_⟩
        have haL : upd H4 a (.frz od (.dT (encD tab))) a = some (.frz od (.dT (encD tab))) := upd_same
        refine for_it walk_itemsT (fun k σ H' => ∃ (v7 v8 v9 v10 : Option V), σ = [some (.str z), some (.int (n : Int)), some (.ref C), some (.int (1 + (i : Int))), some (.ref fo), some (.int ((j + 1 : Nat) : Int)), some (.int ways), v7, v8, v9, v10] ∧ SameBut fo (upd H4 a (.frz od (.dT (encD tab)))) H' ∧ H' fo = some (.dT (encD ((tab.take k).foldl (stepI z (j + 1) ways) f0))))
          ⟨v7, v8, v9, v10, rfl, (fun _ _ _ e => e), by rw [upd_ne (Ne.symm hfa)]; exact hfo3⟩ (fun k σ H' _ ⟨_, _, _, _, _, sb, _⟩ => sb _ _ hfa haL) (fun k y σ H5 H6 hk hP hy => ?_) (fun σ H5 hP => ?_)
        · obtain ⟨v7, v8, v9, v10, rfl, sb5, hfo5⟩ := hP
          obtain ⟨Tp, kk, vv, qk, ek, rfl, hqk, nT, rfl⟩ := hy
          rw [encD_len] at hk
          have ekv : tab[k]? = some tab[k] := List.getElem?_eq_getElem hk
          rw [encD_get ekv] at ek
          obtain ⟨rfl, rfl⟩ := Prod.mk.inj (Option.some.inj ek)
          have wT := same_upd (o := .tup [.ref qk, .int tab[k].2]) nT
          have lf1 := foldI_len z (j + 1) ways (tab.take k) f0
          rw [List.length_take] at lf1
          have hfo6 := wT _ _ hfo5
          have nfoT : Tp ≠ fo := fun e => by rw [e, hfo5] at nT; exact nomatch nT
          refine ⟨Tp, _, rfl, .inl (.inl upd_same), rfl, _, _, rfl, qk, _, rfl, .inl (.inl (wT _ _ hqk)), rfl, _, _, rfl, _, _, rfl, rfl, _, _, rfl, rfl, ?_⟩
          rw [List.take_succ, ekv, List.foldl_append]
          show _
          generalize tab[k] = kv at *
          generalize (tab.take k).foldl (stepI z (j + 1) ways) f0 = f1 at *
          refine ⟨_, rfl, _, rfl, _, rfl, _, rfl, z, j + 1, kv.1, rfl, mz, by omega, by omega, fun Lk es H7 s7 nLk hLk pk => ?_⟩
          have lpk := pk.length
          have lks := keysN_len z (j + 1) kv.1
          have hfo7 := s7 _ _ hfo6
          have nLf : Lk ≠ fo := fun e => by rw [e, hfo6] at nLk; exact nomatch nLk
          refine ⟨Lk, rfl, ⟨_, .inl (.inl hLk)⟩, for_list (xs := es) (fun k2 σ H' => ∃ v10, σ = [some (.str z), some (.int (n : Int)), some (.ref C), some (.int (1 + (i : Int))), some (.ref fo), some (.int ((j + 1 : Nat) : Int)), some (.int ways), some (.int kv.1.1), some (.int kv.1.2), some (.int kv.2), v10] ∧ SameBut fo H7 H' ∧ H' fo = some (.dT (encD (((keysN z (j + 1) kv.1).take k2).foldl (stepK (ways * kv.2)) f1))))
            ⟨v10, rfl, (fun _ _ _ e => e), hfo7⟩ (fun k2 σ H' _ ⟨_, _, sb, _⟩ => .inl (.inl (sb _ _ nLf hLk))) (fun k2 y σ H8 hy hP => ?_) (fun σ H8 hP => ?_)⟩
          · obtain ⟨v10, rfl, sb8, hfo8⟩ := hP
            obtain ⟨key, ekey, tk, rfl, htk⟩ := paired_ix pk hy
            have nkf : tk ≠ fo := ne_of htk hfo7 (fun z => nomatch z)
            have htk8 := sb8 _ _ nkf htk
            have lf2 := foldK_len (ways * kv.2) ((keysN z (j + 1) kv.1).take k2) f1
            rw [List.length_take] at lf2
            rw [List.take_succ, ekey, List.foldl_append]
            generalize ((keysN z (j + 1) kv.1).take k2).foldl (stepK (ways * kv.2)) f1 = f2 at *
            refine ⟨_, rfl, fo, rfl, .inr ⟨_, .inl hfo8⟩, _, rfl, _, DGet.t (k := encK key) hfo8 htk8, ?_⟩
            refine ⟨_, rfl, _, rfl, _, _, rfl, rfl, .inl ⟨by omega, by omega⟩, ?_⟩
            have eg : (valV (encD f2) (encK key)).getD (.int 0) = V.int (getN f2 key) := by
              rw [enc_find]
              unfold getN
              cases findN f2 key <;> rfl
            rw [eg]
            refine ⟨_, _, rfl, rfl, ?_⟩
            have lf0' : f0.length ≤ 40 * j := by simpa using lf0
            have lk2 : k2 ≤ 2 := by
              have := (List.getElem?_eq_some_iff.mp ekey).1
              omega
            have enc : ∀ G : Hp, upd G fo (.dT (putK (encD f2) (encK key) (.int (getN f2 key + ways * kv.2)))) fo = some (.dT (encD (stepK (ways * kv.2) f2 key))) := fun G => by
              rw [upd_same, enc_put]
              rfl
            exact ⟨_, rfl, _, rfl, fo, _, rfl, DPut.t (k := encK key) hfo8 htk8 (by rw [encD_len]; omega), _, rfl, sb8.trans SameBut.upd, enc H8⟩
          · obtain ⟨v10, rfl, sb8, hfo8⟩ := hP
            rw [lpk, List.take_length] at hfo8
            exact ⟨_, _, _, _, rfl, fun b o nb e => sb8 _ _ nb (s7 _ _ (wT _ _ (sb5 _ _ nb e))), hfo8⟩
        · obtain ⟨v7, v8, v9, v10, rfl, sb5, hfo5⟩ := hP
          rw [encD_len, List.take_length] at hfo5
          refine ⟨sb5 _ _ hfa haL, _, _, _, _, _, _, rfl, fun b o nb e => ?_, by rw [upd_ne (Ne.symm hfa)]; exact hfo5⟩
          by_cases ba : b = a
          · subst ba
            rw [upd_same, ← e, ha]
          · rw [upd_ne ba]
            refine sb5 _ _ nb ?_
            rw [upd_ne ba]
            exact sb3 _ _ nb e
      · obtain ⟨v5, v6, v7, v8, v9, v10, rfl, sb3, hfo3⟩ := hP
        have hfC : C ≠ fo := fun e => by rw [e, nfo] at hC; exact nomatch hC
        have hC3 := sb3 _ _ hfC hC
        refine ⟨_, rfl, .inl ⟨rfl, _, .inl (.inl hC3)⟩, _, rfl, C, ds, .ref fo, rfl, rfl, hC3, by omega, ?_⟩
        have Hfo : H fo = none := fr s1 nfo
        have keepT : ∀ {v : V} {d : D2}, TabP H C H1 v d → TabP H C (upd H3 C (.lst (ds ++ [.ref fo]))) v d := fun h => by
          obtain ⟨a, rfl, aC, ha0, ha⟩ := h
          refine ⟨a, rfl, aC, ha0, ?_⟩
          rw [upd_ne aC]
          exact sb3 _ _ (fun e => by rw [e, nfo] at ha; exact nomatch ha) ha
        refine ⟨_, _, _, _, _, _, _, _, rfl, fun b o e => ?_, _, upd_same, paired_add ⟨fo, rfl, Ne.symm hfC, Hfo, by rw [upd_ne (Ne.symm hfC)]; exact hfo3⟩ (Paired.mapP pd fun _ _ h => keepT h)⟩
        rw [upd_ne (fun z => by rw [z, HC] at e; exact nomatch e)]
        exact sb3 _ _ (fun z => by rw [z, Hfo] at e; exact nomatch e) (s1 _ _ e)
    · obtain ⟨v3, v4, v5, v6, v7, v8, v9, v10, rfl, s1, ds, hC, pd⟩ := hP
      have lds := pd.length
      rw [sideT_len] at lds
      obtain ⟨v, ev, tv⟩ : ∃ v, ds[n]? = some v ∧ TabP H C H1 v (sideN z n) := by
        have hl : n < ds.length := by omega
        have e := List.getElem?_eq_getElem hl
        obtain ⟨d, ed, td⟩ := paired_ix pd e
        rw [sideT_get z n n (Nat.le_refl _)] at ed
        obtain rfl := Option.some.inj ed
        exact ⟨_, e, td⟩
      obtain ⟨a, rfl, _, ha0, ha⟩ := tv
      refine ⟨_, rfl, _, rfl, C, ds, (n : Int), .ref a, rfl, rfl, .inl (.inl hC), atI_nat ev, ?_⟩
      exact q a H1 s1 ha0 ha
end

theorem getN_mem {d : D2} {k : KO} (h : getN d k ≠ 0) : (k, getN d k) ∈ d := by
  unfold getN at h ⊢
  unfold findN at h ⊢
  cases e : d.find? fun kv => decide (kv.1 = k) with
  | none => rw [e] at h; exact absurd rfl h
  | some kv =>
    have m := List.mem_of_find?_eq_some e
    have p := List.find?_some (p := fun kv : KO × Int => decide (kv.1 = k)) e
    have p := of_decide_eq_true p
    rw [← p]
    exact m
section
variable {P : Program} {w : World} {K : PySem.W.Frag} {mg : Str → Option Value} {base : Heap}
/-! ### by_through -/
def spBy (CF CB : Addr) : Sp := fun vs H Q E => ∃ (z : Str) (n m : Int), vs = [.str z, .int n, .int m] ∧ (z ∉ fams → E (.ref CF) none H) ∧ (z ∈ fams → siz n m = false → E (.ref CB) none H) ∧
  (z ∈ fams → siz n m = true → ∀ (L : Addr) H', Same H H' → H' L = some (.lst ((byT z n.toNat m.toNat).map V.int)) → Q (.ref L) H')
theorem ok_by_through {f CF CB : Addr} {fd : FuncData} (F : Fun K "by_through" "by_through" s_by_through f fd) (z_range : mg "range" = none) (z_min : mg "min" = none) (m_factorial : mg "factorial" = some (.builtin "math.factorial"))
    {a_counted : Addr} {fd_counted : FuncData} (G_counted : FnOk P w K mg base (L2N.CX P w) 3 a_counted fd_counted ["family", "n", "m"] (spCounted CF CB)) (g_counted : mg "counted" = some (.ref a_counted)) (k_counted : PySem.W.keepIn K (.ref a_counted) = true) (b_counted : Binds K fd_counted ["family", "n", "m"] [])
    {a_side_counts_ : Addr} {fd_side_counts_ : FuncData} (G_side_counts_ : FnOk P w K mg base (L2N.CX P w) 7 a_side_counts_ fd_side_counts_ ["family", "size"] spSide) (g_side_counts_ : mg "_side_counts" = some (.ref a_side_counts_)) (k_side_counts_ : PySem.W.keepIn K (.ref a_side_counts_) = true) (b_side_counts_ : Binds K fd_side_counts_ ["family", "size"] []) :
    FnOk P w K mg base (L2N.CX P w) 8 f fd ["family", "n", "m"] (spBy CF CB) := by
  refine F.okXN sc_by_through (fun vs H Q E h => ?_) (fun cdv A outer s H vs Q E hr h => ?_)
  · obtain ⟨z, n, m, rfl, _⟩ := h
    rfl
  · obtain ⟨z, n, m, rfl, qF, qB, q⟩ := h
    refine ⟨_, (pss_cons (ps_expr (pe_call G_counted (hr.mono (by decide)) rfl g_counted k_counted b_counted .nil (L2N.passes_call (L2N.takes_of rfl rfl rfl rfl) (fun _ _ _ _ h => h)) (pa_cons (pv 0) (pa_cons (pv 1) (pa_cons (pv 2) pa_nil)))))
  (pss_cons (ps_set (i := 3) sc_by_through.nd rfl (.inl rfl) (pe_call G_side_counts_ (hr.mono (by decide)) rfl g_side_counts_ k_side_counts_ b_side_counts_ .nil (L2N.passes_call (L2N.takes_of rfl rfl rfl rfl) (fun _ _ _ _ h => h)) (pa_cons (pv 0) (pa_cons (pv 1) pa_nil))))
  (pss_cons (ps_set (i := 4) sc_by_through.nd rfl (.inl rfl) (pe_call G_side_counts_ (hr.mono (by decide)) rfl g_side_counts_ k_side_counts_ b_side_counts_ .nil (L2N.passes_call (L2N.takes_of rfl rfl rfl rfl) (fun _ _ _ _ h => h)) (pa_cons (pv 0) (pa_cons (pv 2) pa_nil))))
  (Evl.pss_cut (ps_setLc (i := 5) (own := [("_", 10)]) rfl sc_by_through.nd rfl rfl (sw_true rfl rfl rfl (by decide +kernel)) (pi_range1 rfl z_range (pa_cons (pe_op op_add (pe_callB (call_min2 rfl) (by rfl) z_min boot_min (pa_cons (pv 1) (pa_cons (pv 2) pa_nil))) pe_int) pa_nil)) (blkOk_by (N := ["family", "n", "m", "above", "below", "counts", "evens", "odds", "many", "ways", "_"]) (sc := defScope s_by_through) (by first | decide +kernel | rfl)) (fun _ _ _ _ _ => (pg_name (i := 10) sc_by_through.nd rfl (.inl rfl))) (fun _ _ _ _ _ => pts_nil) (fun _ _ _ _ _ => pe_int))
  (pss_cons (ps_lock (ps_for (passes_of rfl) rfl (pi_itemsT (pv 3)) (pg_tup rfl (pgs_cons (pg_tup rfl (pgs_cons (pg_name (i := 6) sc_by_through.nd rfl (.inl rfl)) (pgs_cons (pg_name (i := 7) sc_by_through.nd rfl (.inl rfl)) pgs_nil))) (pgs_cons (pg_name (i := 8) sc_by_through.nd rfl (.inl rfl)) pgs_nil))) (Evl.pss_cut (ps_set (i := 9) sc_by_through.nd rfl (.inl rfl) (pe_op op_mul (pe_op op_mul (pe_callBfun cr_fac rfl m_factorial (pa_cons (pv 6) pa_nil)) (pe_callBfun cr_fac rfl m_factorial (pa_cons (pv 7) pa_nil))) (pe_dget2 (hu_of hr) (pv 4) (pe_tup (pa_cons (pv 6) (pa_cons (pv 7) pa_nil))) pe_int ⟨by rfl, by rfl, by rfl, by rfl⟩)))
  (pss_one (ps_if (pt_cmpR op_gt (pv 9) pe_int (nomark _)) (pss_one (ps_asg (pe_op op_add (pe_ix ix_list (pv 5) (pe_op op_add (pv 6) (pv 7)) (fun _ _ => rfl)) (pe_op op_mul (pv 8) (pv 9))) (pg_sub (pv 5) (pe_op op_add (pv 6) (pv 7)) set_list))) pss_nil)))))
  (pss_one (ps_ret (pv 5)))))))), ?_⟩
    have szl : 20000 ≤ sizeLine := by decide
    refine ⟨_, rfl, _, rfl, _, rfl, z, n, m, rfl, qF, qB, fun mz hs H1 s1 => ?_⟩
    have hz := siz_iff.mp hs
    obtain ⟨n', rfl⟩ : ∃ n' : Nat, n = (n' : Int) := ⟨n.toNat, by omega⟩
    obtain ⟨m', rfl⟩ : ∃ m' : Nat, m = (m' : Int) := ⟨m.toNat, by omega⟩
    have q := q mz hs
    refine ⟨_, rfl, _, rfl, z, n', rfl, mz, by omega, fun da H2 s2 na hda => ?_⟩
    refine ⟨_, rfl, _, rfl, z, m', rfl, mz, by omega, fun db H3 s3 nb hdb => ?_⟩
    have hda3 := s3 _ _ hda
    have nab : da ≠ db := fun e => by rw [← e, hda] at nb; exact nomatch nb
    have s03 := Same.trans s1 (Same.trans s2 s3)
    have em : (if (m' : Int) < (n' : Int) then (m' : Int) else (n' : Int)) + 1 = ((min n' m' + 1 : Nat) : Int) := by split <;> omega
    refine ⟨fun σ H' => ∃ L, σ = [some (.str z), some (.int (n' : Int)), some (.int (m' : Int)), some (.ref da), some (.ref db), some (.ref L), none, none, none, none, none] ∧ Same H3 H' ∧ H3 L = none ∧ H' L = some (.lst ((List.replicate (min n' m' + 1) (0 : Int)).map V.int)), ?_, ?_⟩
    · refine ⟨_, rfl, _, rfl, _, _, rfl, _, _, rfl, rfl, ((min n' m' + 1 : Nat) : Int), congrArg (fun z => [V.int z]) em, by omega, by omega, fun L nL => ?_⟩
      refine lc_range (lo := 0) (n := min n' m' + 1) (fun i H' => SameBut L H3 H' ∧ H' L = some (.lst ((List.replicate i (0 : Int)).map V.int))) ⟨SameBut.upd, upd_same⟩ (fun i H' hi hP => ?_) (fun H' hP => ?_)
      · obtain ⟨sb, hL⟩ := hP
        refine ⟨rfl, _, hL, by rw [List.length_map, List.length_replicate]; omega, sb.trans SameBut.upd, ?_⟩
        rw [upd_same, List.replicate_succ', List.map_append]
        rfl
      · obtain ⟨sb, hL⟩ := hP
        exact ⟨L, rfl, fun b o e => sb b o (ne_of_none e nL) e, nL, hL⟩
    rintro σ H4 ⟨L, rfl, s34, nL, hL⟩
    have hda4 := s34 _ _ hda3
    have hdb4 := s34 _ _ hdb
    have naL : da ≠ L := fun e => by rw [← e, hda3] at nL; exact nomatch nL
    have nbL : db ≠ L := fun e => by rw [← e, hdb] at nL; exact nomatch nL
    refine ⟨da, .dT (encD (sideN z n')), hda4, True.intro, fun od => ?_⟩
    have hfz : upd H4 da (.frz od (.dT (encD (sideN z n')))) da = some (.frz od (.dT (encD (sideN z n')))) := upd_same
    have hdbz : upd H4 da (.frz od (.dT (encD (sideN z n')))) db = some (.dT (encD (sideN z m'))) := by rw [upd_ne (Ne.symm nab)]; exact hdb4
    have hLz : upd H4 da (.frz od (.dT (encD (sideN z n')))) L = some (.lst ((List.replicate (min n' m' + 1) (0 : Int)).map V.int)) := by rw [upd_ne (Ne.symm naL)]; exact hL
    refine ⟨_, rfl, da, od, encD (sideN z n'), rfl, hfz, ?_⟩
    refine for_it walk_itemsT (fun k σ H' => ∃ (v6 v7 v8 v9 : Option V) (c : List Int), σ = [some (.str z), some (.int (n' : Int)), some (.int (m' : Int)), some (.ref da), some (.ref db), some (.ref L), v6, v7, v8, v9, none] ∧ SameBut L (upd H4 da (.frz od (.dT (encD (sideN z n'))))) H' ∧ H' L = some (.lst (c.map V.int)) ∧ c.length = min n' m' + 1 ∧ c = ((sideN z n').take k).foldl (stepB (sideN z m')) (List.replicate (min n' m' + 1) 0))
      ⟨none, none, none, none, _, rfl, (fun _ _ _ e => e), hLz, by rw [List.length_replicate], rfl⟩ (fun k σ H' _ ⟨_, _, _, _, _, _, sb, _⟩ => sb _ _ naL hfz) (fun k y σ H5 H6 hk hP hy => ?_) (fun σ H5 hP => ?_)
    · obtain ⟨v6, v7, v8, v9, c, rfl, sb5, hL5, lc, ec⟩ := hP
      obtain ⟨Tp, kk, vv, qk, ek, rfl, hqk, nT, rfl⟩ := hy
      rw [encD_len] at hk
      have ekv : (sideN z n')[k]? = some (sideN z n')[k] := List.getElem?_eq_getElem hk
      rw [encD_get ekv] at ek
      obtain ⟨rfl, rfl⟩ := Prod.mk.inj (Option.some.inj ek)
      have mtab : sideN z n' ∈ sideT z n' := List.mem_of_getElem? (sideT_get z n' n' (Nat.le_refl _))
      have sm := ((sideT_small z mz n' (by omega)).2 _ mtab).2 _ (List.mem_of_getElem? ekv)
      have vl := sideT_vals z mz n' (by omega) _ mtab _ (List.mem_of_getElem? ekv)
      have wT := same_upd (o := .tup [.ref qk, .int (sideN z n')[k].2]) nT
      have hL6 := wT _ _ hL5
      have hdb6 := wT _ _ (sb5 _ _ nbL hdbz)
      refine ⟨Tp, _, rfl, .inl (.inl upd_same), rfl, _, _, rfl, qk, _, rfl, .inl (.inl (wT _ _ hqk)), rfl, _, _, rfl, _, _, rfl, rfl, _, _, rfl, rfl, ?_⟩
      rw [List.take_succ, ekv, List.foldl_append, ← ec]
      generalize (sideN z n')[k] = kv at *
      obtain ⟨⟨e', o'⟩, many⟩ := kv
      dsimp only at sm vl
      obtain ⟨e, rfl⟩ : ∃ e : Nat, e' = (e : Int) := ⟨e'.toNat, by omega⟩
      obtain ⟨o, rfl⟩ : ∃ o : Nat, o' = (o : Int) := ⟨o'.toNat, by omega⟩
      have fe := fac_8 e (by omega)
      have fo := fac_8 o (by omega)
      have mb : sideN z m' ∈ sideT z m' := List.mem_of_getElem? (sideT_get z m' m' (Nat.le_refl _))
      have gb : 0 ≤ getN (sideN z m') ((e : Int), (o : Int)) ∧ getN (sideN z m') ((e : Int), (o : Int)) ≤ 1000000 ∧ (getN (sideN z m') ((e : Int), (o : Int)) ≠ 0 → e + o ≤ m') := by
        by_cases h0 : getN (sideN z m') ((e : Int), (o : Int)) = 0
        · rw [h0]
          exact ⟨by decide, by decide, fun h => absurd rfl h⟩
        · have mm := getN_mem h0
          have v := sideT_vals z mz m' (by omega) _ mb _ mm
          have s := ((sideT_small z mz m' (by omega)).2 _ mb).2 _ mm
          dsimp only at v s
          exact ⟨v.1, v.2, fun _ => by omega⟩
      have p1 : 0 ≤ fac e * fac o ∧ fac e * fac o ≤ 40320 * 40320 := ⟨Int.mul_nonneg (by omega) (by omega), Int.mul_le_mul fe.2 fo.2 (by omega) (by omega)⟩
      refine ⟨fun σ H' => σ = [some (.str z), some (.int (n' : Int)), some (.int (m' : Int)), some (.ref da), some (.ref db), some (.ref L), some (.int (e : Int)), some (.int (o : Int)), some (.int many), some (.int (fac e * fac o * getN (sideN z m') ((e : Int), (o : Int)))), none] ∧ Same (upd H5 Tp (.tup [.ref qk, .int many])) H', ?_, ?_⟩
      · refine ⟨_, rfl, (e : Int), rfl, by omega, by omega, _, rfl, (o : Int), rfl, by omega, by omega, _, _, rfl, rfl, .inl ⟨by show -(2 ^ 64) < fac e; omega, by show fac e < 2 ^ 64; omega⟩, ?_⟩
        refine ⟨_, rfl, db, rfl, .inr ⟨_, .inl hdb6⟩, _, rfl, _, rfl, (by show 2 ≤ sizeLine; decide), fun p np => ?_⟩
        have wp := same_upd (o := .tup [.int (e : Int), .int (o : Int)]) np
        refine ⟨_, DGet.t (k := encK ((e : Int), (o : Int))) (wp _ _ hdb6) upd_same, ?_⟩
        have eg : (valV (encD (sideN z m')) (encK ((e : Int), (o : Int)))).getD (.int 0) = V.int (getN (sideN z m') ((e : Int), (o : Int))) := by
          rw [enc_find]
          unfold getN
          cases findN (sideN z m') ((e : Int), (o : Int)) <;> rfl
        rw [eg]
        exact ⟨_, _, rfl, rfl, .inl ⟨by show -(2 ^ 64) < fac e * fac o; omega, by show fac e * fac o < 2 ^ 64; omega⟩, rfl, wp⟩
      rintro σ H7 ⟨rfl, s7⟩
      have hL7 := s7 _ _ hL6
      have sb7 : SameBut L (upd H4 da (.frz od (.dT (encD (sideN z n'))))) H7 := fun b o' nb e' => s7 _ _ (wT _ _ (sb5 _ _ nb e'))
      have eB : List.foldl (stepB (sideN z m')) c (some (((e : Int), (o : Int)), many)).toList = if 0 < fac e * fac o * getN (sideN z m') ((e : Int), (o : Int)) then c.set (e + o) (co c (e + o) + many * (fac e * fac o * getN (sideN z m') ((e : Int), (o : Int)))) else c := by
        show (if 0 < fac ((e : Int)).toNat * fac ((o : Int)).toNat * getN (sideN z m') ((e : Int), (o : Int)) then c.set ((e : Int) + (o : Int)).toNat (co c ((e : Int) + (o : Int)).toNat + many * (fac ((e : Int)).toNat * fac ((o : Int)).toNat * getN (sideN z m') ((e : Int), (o : Int)))) else c) = _
        rw [Int.toNat_natCast, Int.toNat_natCast, show ((e : Int) + (o : Int)).toNat = e + o by omega]
      rw [eB]
      generalize hw : fac e * fac o * getN (sideN z m') ((e : Int), (o : Int)) = ways at *
      refine ⟨_, rfl, _, _, rfl, rfl, _, rfl, ite2 (fun h => ?_) (fun h => ?_)⟩
      · have h := of_decide_eq_true h
        have g0 : getN (sideN z m') ((e : Int), (o : Int)) ≠ 0 := fun z0 => by
          rw [z0, Int.mul_zero] at hw
          omega
        have em' := gb.2.2 g0
        rw [if_pos h]
        have lt : e + o < c.length := by omega
        refine ⟨_, rfl, _, rfl, _, rfl, _, _, rfl, rfl, L, c.map V.int, ((e + o : Nat) : Int), .int (co c (e + o)), rfl, congrArg V.int (by omega), .inl (.inl hL7), atI_nat (by rw [List.getElem?_map, co_get lt]; rfl), ?_⟩
        refine ⟨_, rfl, _, rfl, _, _, rfl, rfl, .inl ⟨by omega, by omega⟩, _, _, rfl, rfl, ?_⟩
        refine ⟨_, rfl, _, rfl, _, rfl, _, _, rfl, rfl, L, c.map V.int, ((e + o : Nat) : Int), e + o, rfl, congrArg V.int (by omega), hL7, ixN_nat (by rw [List.length_map]; exact lt), ?_⟩
        refine ⟨_, _, _, _, _, rfl, sb7.trans SameBut.upd, ?_, by rw [List.length_set]; exact lc, rfl⟩
        rw [upd_same, List.map_set]
      · have h : ¬ 0 < ways := fun z => h (decide_eq_true z)
        rw [if_neg h]
        exact ⟨_, _, _, _, _, rfl, sb7, hL7, lc, rfl⟩
    · obtain ⟨v6, v7, v8, v9, c, rfl, sb5, hL5, lc, ec⟩ := hP
      rw [encD_len, List.take_length] at ec
      refine ⟨sb5 _ _ naL hfz, _, rfl, ?_⟩
      refine q L _ (fun b o e => ?_) ?_
      · have nbda : b ≠ da := fun z => by
          have := s1 _ _ e
          rw [z, na] at this
          exact nomatch this
        have nbL' : b ≠ L := fun z => by
          have := s03 _ _ e
          rw [z, nL] at this
          exact nomatch this
        rw [upd_ne nbda]
        refine sb5 _ _ nbL' ?_
        rw [upd_ne nbda]
        exact s34 _ _ (s03 _ _ e)
      · rw [upd_ne (Ne.symm naL), hL5, ec]
        rfl
end

/-! ### the law's own counts -/
def chN (n k : Nat) : Int := (List.range k).foldl (fun (f : Int) (j : Nat) => f * ((n : Int) - (j : Int)) / ((j : Int) + 1)) 1
def prN (lo c : Int) (n : Nat) : Int := (List.range n).foldl (fun (f : Int) (i : Nat) => f * (lo + (i : Int) * c)) 1
def threeP (k : KO) : List (KO × Int) := [((k.1 + 1, k.2), 1), ((k.1, k.2 + 1), 1), ((k.1, k.2), k.1 + k.2)]
def stepQ (many : Int) (f : D2) (p : KO × Int) : D2 := putN f p.1 (getN f p.1 + p.2 * many)
def stepP (tab f : D2) (kv : KO × Int) : D2 := (threeP kv.1).foldl (stepQ (getN tab kv.1)) f
def sideP : Nat → D2
  | 0 => [((0, 0), 1)]
  | n + 1 => (sideP n).foldl (stepP (sideP n)) []
def endP (n t : Nat) : List Int := ((sideP n).filter fun kv => decide (kv.1.1 = (t : Int))).map fun kv => getN (sideP n) kv.1
def lside (z : Str) (n t : Nat) : Int := if z = "pairs" then (if ((n : Int) - (t : Int)) % 2 = 1 then 0 else chN n t * prN 1 2 ((n - t) / 2)) else if z = "loose" then chN n t else (endP n t).sum
theorem chN_small : ∀ n, n < 9 → ∀ k, k < 9 → 0 ≤ chN n k ∧ chN n k ≤ 100000 := by decide +kernel
theorem prN_small1 : ∀ n, n < 9 → 0 ≤ prN 1 1 n ∧ prN 1 1 n ≤ 1000000 := by decide +kernel
theorem prN_small2 : ∀ n, n < 5 → 0 ≤ prN 1 2 n ∧ prN 1 2 n ≤ 1000000 := by decide +kernel
theorem sideP_small : ∀ n, n < 9 → (sideP n).length ≤ 100 ∧ ∀ kv ∈ sideP n, 0 ≤ kv.1.1 ∧ kv.1.1 ≤ 100 ∧ 0 ≤ kv.1.2 ∧ kv.1.2 ≤ 100 ∧ 0 ≤ getN (sideP n) kv.1 ∧ getN (sideP n) kv.1 ≤ 1000000000 := by decide +kernel
theorem endP_small : ∀ n, n < 9 → ∀ t, t < 9 → (endP n t).length ≤ 100 ∧ (∀ x ∈ endP n t, 0 ≤ x ∧ x ≤ 1000000000) := by decide +kernel
theorem getN_at {d : D2} {i : Nat} {kv : KO × Int} (h : d[i]? = some kv) : findN d kv.1 = some (getN d kv.1) := by
  unfold getN
  unfold findN
  cases e : d.find? fun x => decide (x.1 = kv.1) with
  | none =>
    have := List.find?_eq_none.mp e kv (List.mem_of_getElem? h)
    exact absurd (decide_eq_true rfl) this
  | some x => rfl
theorem encK_kV (k : KO) : (encK k).map kV = [V.int k.1, V.int k.2] := rfl
theorem stepQ_len (many : Int) (f : D2) (p : KO × Int) : (stepQ many f p).length ≤ f.length + 1 := putN_len _ _ _
theorem stepP_len (tab f : D2) (kv : KO × Int) : (stepP tab f kv).length ≤ f.length + 3 := by
  unfold stepP threeP
  have h1 := stepQ_len (getN tab kv.1) f ((kv.1.1 + 1, kv.1.2), 1)
  have h2 := stepQ_len (getN tab kv.1) (stepQ (getN tab kv.1) f ((kv.1.1 + 1, kv.1.2), 1)) ((kv.1.1, kv.1.2 + 1), 1)
  have h3 := stepQ_len (getN tab kv.1) (stepQ (getN tab kv.1) (stepQ (getN tab kv.1) f ((kv.1.1 + 1, kv.1.2), 1)) ((kv.1.1, kv.1.2 + 1), 1)) ((kv.1.1, kv.1.2), kv.1.1 + kv.1.2)
  show (stepQ _ (stepQ _ (stepQ _ f _) _) _).length ≤ _
  omega
theorem foldP_len (tab : D2) : ∀ (ks f : D2), (ks.foldl (stepP tab) f).length ≤ f.length + 3 * ks.length
  | [], f => Nat.le_refl _
  | k :: ks, f => by
    rw [List.foldl_cons]
    have h1 := foldP_len tab ks (stepP tab f k)
    have h2 := stepP_len tab f k
    rw [List.length_cons]
    omega
theorem rg_2 : ∀ d : Nat, d < 9 → RgC 1 (d : Int) 2 (d / 2) := by
  unfold RgC
  decide +kernel
theorem rg_1 : ∀ t : Nat, t < 9 → RgC 1 ((t : Int) + 1) 1 t := by
  unfold RgC
  decide +kernel
section
variable {P : Program} {w : World} {K : PySem.W.Frag} {mg : Str → Option Value} {base : Heap}
def spChoose : Sp := fun vs H Q _ => ∃ (n k : Nat), vs = [.int (n : Int), .int (k : Int)] ∧ n ≤ 8 ∧ k ≤ 8 ∧ Q (.int (chN n k)) H
theorem ok_law_choose {f : Addr} {fd : FuncData} (F : Fun K "_law_choose" "_law_choose" s_law_choose f fd) (z_range : mg "range" = none) : FnOk P w K mg base CX0 1 f fd ["n", "k"] spChoose := by
  refine F.ok sc_law_choose (fun vs H Q E h => ?_) (fun cdv A outer s H vs Q E hr h => ?_)
  · obtain ⟨n, k, rfl, _⟩ := h
    rfl
  · obtain ⟨n, k, rfl, hn, hk, q⟩ := h
    refine ⟨_, (pss_cons (ps_set (i := 2) sc_law_choose.nd rfl (.inl rfl) pe_int)
  (pss_cons (ps_for PassesOwn.never rfl (pi_range1 rfl z_range (pa_cons (pv 1) pa_nil)) (pg_name (i := 3) sc_law_choose.nd rfl (.inl rfl)) (pss_one (ps_set (i := 2) sc_law_choose.nd rfl (.inl rfl) (pe_op op_fdiv (pe_op op_mul (pv 2) (pe_op op_sub (pv 0) (pv 3))) (pe_op op_add (pv 3) pe_int)))))
  (pss_one (ps_ret (pv 2))))), ?_⟩
    refine ⟨_, rfl, (k : Int), rfl, by omega, by omega, ?_⟩
    rw [Int.toNat_natCast]
    refine for_range (lo := 0) (n := k) (fun i σ H' => ∃ v3, σ = [some (.int (n : Int)), some (.int (k : Int)), some (.int (chN n i)), v3] ∧ H' = H) ⟨none, rfl, rfl⟩ (fun i σ H1 hi hP => ?_) (fun σ H1 hP => ?_)
    · obtain ⟨v3, rfl, rfl⟩ := hP
      have c1 := chN_small n (by omega) i (by omega)
      have c2 : chN n (i + 1) = chN n i * ((n : Int) - (i : Int)) / ((i : Int) + 1) := by
        unfold chN
        rw [List.range_succ, List.foldl_append]
        rfl
      have hp : (chN n i * ((n : Int) - (i : Int))).natAbs ≤ 100000 * 8 := by
        rw [Int.natAbs_mul]
        exact Nat.mul_le_mul (by omega) (by omega)
      refine ⟨_, rfl, _, rfl, _, rfl, _, _, rfl, rfl, _, _, rfl, rfl, .inl ⟨by omega, by omega⟩, _, rfl, _, _, rfl, rfl, _, _, rfl, rfl, ⟨by omega, by omega⟩, some (.int (0 + (i : Int))), ?_, rfl⟩
      rw [c2, Int.zero_add]
      rfl
    · obtain ⟨v3, rfl, rfl⟩ := hP
      exact ⟨_, rfl, q⟩
def spProduct : Sp := fun vs H Q _ => ∃ (lo hi c : Int) (n : Nat), vs = [.int lo, .int hi, .int c] ∧ RgC lo (hi + 1) c n ∧ (∀ i, i ≤ n → (prN lo c i).natAbs ≤ 1000000) ∧ Q (.int (prN lo c n)) H
theorem ok_law_product {f : Addr} {fd : FuncData} (F : Fun K "_law_product" "_law_product" s_law_product f fd) (z_range : mg "range" = none) : FnOk P w K mg base CX0 1 f fd ["low", "high", "step"] spProduct := by
  refine F.ok sc_law_product (fun vs H Q E h => ?_) (fun cdv A outer s H vs Q E hr h => ?_)
  · obtain ⟨lo, hi, c, n, rfl, _⟩ := h
    rfl
  · obtain ⟨lo, hi, c, n, rfl, rg, small, q⟩ := h
    refine ⟨_, (pss_cons (ps_set (i := 3) sc_law_product.nd rfl (.inl rfl) pe_int)
  (pss_cons (ps_for PassesOwn.never rfl (pi_range3 rfl z_range (pa_cons (pv 0) (pa_cons (pe_op op_add (pv 1) pe_int) (pa_cons (pv 2) pa_nil)))) (pg_name (i := 4) sc_law_product.nd rfl (.inl rfl)) (pss_one (ps_set (i := 3) sc_law_product.nd rfl (.inl rfl) (pe_op op_mul (pv 3) (pv 4)))))
  (pss_one (ps_ret (pv 3))))), ?_⟩
    refine ⟨_, rfl, _, rfl, _, _, rfl, rfl, _, rfl, lo, hi + 1, c, n, rfl, rg, ?_⟩
    refine for_it walk_rangeC (fun i σ H' => ∃ v4, σ = [some (.int lo), some (.int hi), some (.int c), some (.int (prN lo c i)), v4] ∧ H' = H) ⟨none, rfl, rfl⟩ (fun _ _ _ _ _ => trivial) (fun i y σ H1 H2 hi' hP hy => ?_) (fun σ H1 hP => ?_)
    · obtain ⟨v4, rfl, rfl⟩ := hP
      obtain ⟨rfl, rfl⟩ := hy
      have c1 := small i (by omega)
      have c2 : prN lo c (i + 1) = prN lo c i * (lo + (i : Int) * c) := by
        unfold prN
        rw [List.range_succ, List.foldl_append]
        rfl
      refine ⟨_, rfl, _, rfl, _, _, rfl, rfl, .inl ⟨by omega, by omega⟩, some (.int (lo + (i : Int) * c)), ?_, rfl⟩
      rw [c2]
      rfl
    · obtain ⟨v4, rfl, rfl⟩ := hP
      exact ⟨_, rfl, q⟩
/-! ### _law_side -/
theorem enc_get {d : D2} {k : KO} : (valV (encD d) (encK k)).getD (.int 0) = V.int (getN d k) := by
  rw [enc_find]
  unfold getN
  cases findN d k <;> rfl
def spLside : Sp := fun vs H Q _ => ∃ (z : Str) (n t : Nat), vs = [.str z, .int (n : Int), .int (t : Int)] ∧ n ≤ 8 ∧ t ≤ n ∧ ∀ H', Same H H' → Q (.int (lside z n t)) H'
theorem ok_law_side {f : Addr} {fd : FuncData} (F : Fun K "_law_side" "_law_side" s_law_side f fd) (z_range : mg "range" = none) (z_sum : mg "sum" = none) (z_int : mg "int" = none)
    {a_law_choose : Addr} {fd_law_choose : FuncData} (G_law_choose : FnOk P w K mg base CX0 1 a_law_choose fd_law_choose ["n", "k"] spChoose) (g_law_choose : mg "_law_choose" = some (.ref a_law_choose)) (k_law_choose : PySem.W.keepIn K (.ref a_law_choose) = true) (b_law_choose : Binds K fd_law_choose ["n", "k"] [])
    {a_law_product : Addr} {fd_law_product : FuncData} (G_law_product : FnOk P w K mg base CX0 1 a_law_product fd_law_product ["low", "high", "step"] spProduct) (g_law_product : mg "_law_product" = some (.ref a_law_product)) (k_law_product : PySem.W.keepIn K (.ref a_law_product) = true) (b_law_product : Binds K fd_law_product ["low", "high", "step"] []) :
    FnOk P w K mg base CX0 2 f fd ["family", "n", "t"] spLside := by
  refine F.ok sc_law_side (fun vs H Q E h => ?_) (fun cdv A outer s H vs Q E hr h => ?_)
  · obtain ⟨z, n, t, rfl, _⟩ := h
    rfl
  · obtain ⟨z, n, t, rfl, n8, tn, q⟩ := h
    refine ⟨_, (pss_cons (ps_if (pt_cmpR op_eq (pv 0) pe_str (nomark _)) (pss_cons (ps_if (pt_cmpR op_eq (pe_op op_mod (pe_callTy call_int1 (by rfl) z_int boot_int (pa_cons (pe_op op_sub (pv 1) (pv 2)) pa_nil)) pe_int) pe_int (nomark _)) (pss_one (ps_ret pe_int)) pss_nil)
  (pss_one (ps_ret (pe_op op_mul (pe_call G_law_choose (hr.mono (by decide)) rfl g_law_choose k_law_choose b_law_choose .nil pass0 (pa_cons (pv 1) (pa_cons (pv 2) pa_nil))) (pe_call G_law_product (hr.mono (by decide)) rfl g_law_product k_law_product b_law_product .nil pass0 (pa_cons pe_int (pa_cons (pe_op op_sub (pe_op op_sub (pv 1) (pv 2)) pe_int) (pa_cons pe_int pa_nil)))))))) pss_nil)
  (pss_cons (ps_if (pt_cmpR op_eq (pv 0) pe_str (nomark _)) (pss_one (ps_ret (pe_call G_law_choose (hr.mono (by decide)) rfl g_law_choose k_law_choose b_law_choose .nil pass0 (pa_cons (pv 1) (pa_cons (pv 2) pa_nil))))) pss_nil)
  (pss_cons (ps_set (i := 3) sc_law_side.nd rfl (.inr rfl) (pe_dispT1 (hu_of hr) (pe_tup (pa_cons pe_int (pa_cons pe_int pa_nil))) pe_int))
  (pss_cons (ps_for PassesOwn.never rfl (pi_range1 rfl z_range (pa_cons (pv 1) pa_nil)) (pg_name (i := 4) sc_law_side.nd rfl (.inl rfl)) (Evl.pss_cut (ps_set (i := 5) sc_law_side.nd rfl (.inl rfl) pe_dnewT)
  (pss_cons (ps_lock (ps_for PassesOwn.never rfl (pi_keys (pv 3)) (pg_tup rfl (pgs_cons (pg_name (i := 6) sc_law_side.nd rfl (.inl rfl)) (pgs_cons (pg_name (i := 7) sc_law_side.nd rfl (.inl rfl)) pgs_nil))) (Evl.pss_cut (ps_set (i := 8) sc_law_side.nd rfl (.inl rfl) (pe_dget (hu_of hr) (pv 3) (pe_tup (pa_cons (pv 6) (pa_cons (pv 7) pa_nil))) (fun _ _ => rfl)))
  (pss_one (ps_for PassesOwn.never rfl (pi_list (pe_lst (pa_cons (pe_tup (pa_cons (pe_tup (pa_cons (pe_op op_add (pv 6) pe_int) (pa_cons (pv 7) pa_nil))) (pa_cons pe_int pa_nil))) (pa_cons (pe_tup (pa_cons (pe_tup (pa_cons (pv 6) (pa_cons (pe_op op_add (pv 7) pe_int) pa_nil))) (pa_cons pe_int pa_nil))) (pa_cons (pe_tup (pa_cons (pe_tup (pa_cons (pv 6) (pa_cons (pv 7) pa_nil))) (pa_cons (pe_op op_add (pv 6) (pv 7)) pa_nil))) pa_nil))))) (pg_tup rfl (pgs_cons (pg_name (i := 9) sc_law_side.nd rfl (.inl rfl)) (pgs_cons (pg_name (i := 10) sc_law_side.nd rfl (.inl rfl)) pgs_nil))) (pss_one (ps_dput (hu_of hr) (pv 5) (pv 9) (pe_op op_add (pe_dget2 (hu_of hr) (pv 5) (pv 9) pe_int ⟨by rfl, by rfl, by rfl, by rfl⟩) (pe_op op_mul (pv 10) (pv 8))) rfl)))))))
  (pss_one (ps_set (i := 3) sc_law_side.nd rfl (.inr rfl) (pv 5))))))
  (pss_one (ps_ret (pe_callB (cr_sum rfl) (by rfl) z_sum boot_sum (pa_cons (pe_lock (pe_lc (own := [("key", 9)]) rfl sc_law_side.nd (pi_keys (pv 3)) (blkOk_by (N := ["family", "n", "t", "table", "at", "following", "one", "other", "many", "key", "ways"]) (sc := defScope s_law_side) (by first | decide +kernel | rfl)) (fun _ _ _ _ _ => (pg_name (i := 9) sc_law_side.nd rfl (.inl rfl))) (fun _ _ _ _ _ => pts_one (pt_cmpR op_eq (pe_ix (ix_tupK (K := K) rfl) (pv 9) pe_int (fun _ _ => rfl)) (pv 2) (nomark _))) (fun _ _ _ _ _ => (pe_dget (hu_of hr) (pv 3) (pv 9) (fun _ _ => rfl))))) pa_nil)))))))), ?_⟩
    have szl : 20000 ≤ sizeLine := by decide
    have q0 := q
    unfold lside at q
    refine ⟨_, rfl, rfl, _, rfl, ?_⟩
    by_cases c1 : z = "pairs"
    · rw [if_pos c1] at q
      refine if_pos_of (decide_eq_true (congrArg V.str c1)) ?_
      refine ⟨_, rfl, _, rfl, _, _, rfl, rfl, .inl ⟨_, rfl, _, _, rfl, rfl, (by show (0 : Int) < 2; decide), ?_⟩⟩
      refine ⟨rfl, _, rfl, ?_⟩
      by_cases c2 : ((n : Int) - (t : Int)) % 2 = 1
      · rw [if_pos c2] at q
        exact if_pos_of (decide_eq_true (congrArg V.int c2)) (q H (Same.refl _))
      · rw [if_neg c2] at q
        refine if_neg_of (fun h => c2 (V.int.inj (of_decide_eq_true h))) ?_
        have ch := chN_small n (by omega) t (by omega)
        refine ⟨_, rfl, _, rfl, n, t, rfl, n8, by omega, _, rfl, _, rfl, _, _, rfl, rfl, _, _, rfl, rfl, 1, (n : Int) - (t : Int) - 1, 2, (n - t) / 2, rfl, ?_, ?_, _, _, rfl, rfl, .inl ⟨by omega, by omega⟩, q H (Same.refl _)⟩
        · rw [show (n : Int) - (t : Int) - 1 + 1 = ((n - t : Nat) : Int) by omega]
          exact rg_2 _ (by omega)
        · intro i hi
          have := prN_small2 i (by omega)
          omega
    rw [if_neg c1] at q
    refine if_neg_of (fun h => c1 (V.str.inj (of_decide_eq_true h))) ?_
    refine ⟨_, rfl, rfl, _, rfl, ?_⟩
    by_cases c2 : z = "loose"
    · rw [if_pos c2] at q
      exact if_pos_of (decide_eq_true (congrArg V.str c2)) ⟨_, rfl, _, rfl, n, t, rfl, n8, by omega, q H (Same.refl _)⟩
    rw [if_neg c2] at q
    refine if_neg_of (fun h => c2 (V.str.inj (of_decide_eq_true h))) ?_
    refine fun T nT => ⟨(by show 2 ≤ sizeLine; decide), fun b nb => ⟨encK (0, 0), b, rfl, upd_same, (by rw [upd_ne (ne_of_none upd_same nb)]; exact upd_same), ?_⟩⟩
    have nTH : H T = none := nT
    have s0 : Same H (upd (upd (upd H T (.dT [])) b (.tup [.int 0, .int 0])) T (.dT [(encK (0, 0), .int 1)])) := Same.mut (Same.trans (same_upd nT) (same_upd nb)) nT
    have hT0 : upd (upd (upd H T (.dT [])) b (.tup [.int 0, .int 0])) T (.dT [(encK (0, 0), .int 1)]) T = some (.dT (encD (sideP 0))) := upd_same
    revert s0 hT0
    generalize upd (upd (upd H T (.dT [])) b (.tup [.int 0, .int 0])) T (.dT [(encK (0, 0), .int 1)]) = H1
    intro s0 hT0
    refine ⟨_, rfl, (n : Int), rfl, by omega, by omega, ?_⟩
    rw [Int.toNat_natCast]
    refine for_range (lo := 0) (n := n) (fun k σ H' => ∃ T v4 v5 v6 v7 v8 v9 v10, σ = [some (.str z), some (.int n), some (.int t), some (.ref T), v4, v5, v6, v7, v8, v9, v10] ∧ Same H H' ∧ H T = none ∧ H' T = some (.dT (encD (sideP k))))
      ⟨T, none, none, none, none, none, none, none, rfl, s0, nTH, hT0⟩ (fun k σ H2 hk hP => ?_) (fun σ H2 hP => ?_)
    · obtain ⟨T, v4, v5, v6, v7, v8, v9, v10, rfl, s2, nTH, hT⟩ := hP
      have small := sideP_small k (by omega)
      refine ⟨fun σ H' => ∃ F, σ = [some (.str z), some (.int n), some (.int t), some (.ref T), some (.int (0 + (k : Int))), some (.ref F), v6, v7, v8, v9, v10] ∧ Same H2 H' ∧ H2 F = none ∧ H' F = some (.dT []), ?_, ?_⟩
      · exact fun F nF => ⟨F, rfl, same_upd nF, nF, upd_same⟩
      rintro σ H3 ⟨F, rfl, s23, nF, hF3⟩
      have nFH : H F = none := none_back s2 nF
      have nFT : T ≠ F := ne_of_none hT nF
      have hT3 := s23 _ _ hT
      have s3 := Same.trans s2 s23
      have esP : sideP (k + 1) = (sideP k).foldl (stepP (sideP k)) [] := rfl
      rw [esP]
      generalize sideP k = tab at *
      refine ⟨T, _, hT3, trivial, fun od => ?_⟩
      have s4 : Same H (upd H3 T (.frz od (.dT (encD tab)))) := Same.mut s3 nTH
      have hT4 : upd H3 T (.frz od (.dT (encD tab))) T = some (.frz od (.dT (encD tab))) := upd_same
      have hF4 : upd H3 T (.frz od (.dT (encD tab))) F = some (.dT (encD [])) := by rw [upd_ne (Ne.symm nFT)]; exact hF3
      revert s4 hT4 hF4
      generalize upd H3 T (.frz od (.dT (encD tab))) = H4
      intro s4 hT4 hF4
      refine ⟨_, rfl, T, od, rfl, .inr ⟨_, hT4, for_it walk_keysT (fun i σ H' => ∃ v6 v7 v8 v9 v10, σ = [some (.str z), some (.int n), some (.int t), some (.ref T), some (.int (0 + (k : Int))), some (.ref F), v6, v7, v8, v9, v10] ∧ Same H H' ∧ H' T = some (.frz od (.dT (encD tab))) ∧ H' F = some (.dT (encD ((tab.take i).foldl (stepP tab) []))))
        ⟨v6, v7, v8, v9, v10, rfl, s4, hT4, hF4⟩ (fun i σ H' _ ⟨_, _, _, _, _, _, _, h, _⟩ => h) (fun i x σ H5 H6 hi hP hy => ?_) (fun σ H5 hP => ?_)⟩⟩
      · obtain ⟨v6, v7, v8, v9, v10, rfl, s5, hT5, hF5⟩ := hP
        obtain ⟨rfl, k0, v0, q0, e0, rfl, hq⟩ := hy
        rw [encD_len] at hi
        have ekv : tab[i]? = some tab[i] := List.getElem?_eq_getElem hi
        rw [encD_get ekv] at e0
        obtain ⟨rfl, rfl⟩ := Prod.mk.inj (Option.some.inj e0)
        have sm := small.2 _ (List.mem_of_getElem? ekv)
        have fk := getN_at ekv
        have lf := foldP_len tab (tab.take i) []
        rw [List.length_take] at lf
        have lf2 : (List.foldl (stepP tab) [] (tab.take i)).length ≤ 300 := by
          have := small.1
          have : ([] : D2).length = 0 := rfl
          omega
        rw [List.take_succ, ekv, List.foldl_append]
        show _
        generalize tab[i] = kv at *
        generalize (tab.take i).foldl (stepP tab) [] = f0 at *
        have eP : List.foldl (stepP tab) f0 (some kv).toList = (threeP kv.1).foldl (stepQ (getN tab kv.1)) f0 := rfl
        rw [eP]
        have hq' : H6 q0 = some (.tup [.int kv.1.1, .int kv.1.2]) := hq
        refine ⟨q0, _, rfl, .inl (.inl hq'), rfl, _, _, rfl, _, _, rfl, rfl, ?_⟩
        refine ⟨fun σ H' => σ = [some (.str z), some (.int n), some (.int t), some (.ref T), some (.int (0 + (k : Int))), some (.ref F), some (.int kv.1.1), some (.int kv.1.2), some (.int (getN tab kv.1)), v9, v10] ∧ Same H6 H', ?_, ?_⟩
        · refine ⟨_, rfl, _, rfl, _, rfl, (by show 2 ≤ sizeLine; decide), fun p np => ?_⟩
          have wp := same_upd (o := .tup [.int kv.1.1, .int kv.1.2]) np
          exact ⟨T, .int (getN tab kv.1), rfl, .inr ⟨encD tab, encK kv.1, p, .inr ⟨od, wp _ _ hT5⟩, rfl, upd_same, by rw [enc_find, fk]; rfl⟩, rfl, wp⟩
        rintro σ H7 ⟨rfl, s67⟩
        have s7 := Same.trans s5 s67
        have hT7 := s67 _ _ hT5
        have hF7 := s67 _ _ hF5
        generalize getN tab kv.1 = many at *
        refine ⟨_, rfl, _, _, rfl, rfl, _, rfl, (by show 2 ≤ sizeLine; decide), fun p1 n1 => ⟨(by show 2 ≤ sizeLine; decide), fun r1 m1 => ⟨_, rfl, _, rfl, _, _, rfl, rfl, (by show 2 ≤ sizeLine; decide), fun p2 n2 => ⟨(by show 2 ≤ sizeLine; decide), fun r2 m2 => ⟨_, rfl, _, rfl, (by show 2 ≤ sizeLine; decide), fun p3 n3 => ⟨_, rfl, _, rfl, _, _, rfl, rfl, (by show 2 ≤ sizeLine; decide), fun r3 m3 => ⟨(by show 3 ≤ sizeLine; decide), fun L nL => ?_⟩⟩⟩⟩⟩⟩⟩
        have w1 := same_upd (o := .tup [.int (kv.1.1 + 1), .int kv.1.2]) n1
        have w2 := same_upd (o := .tup [.ref p1, .int 1]) m1
        have w3 := same_upd (o := .tup [.int kv.1.1, .int (kv.1.2 + 1)]) n2
        have w4 := same_upd (o := .tup [.ref p2, .int 1]) m2
        have w5 := same_upd (o := .tup [.int kv.1.1, .int kv.1.2]) n3
        have w6 := same_upd (o := .tup [.ref p3, .int (kv.1.1 + kv.1.2)]) m3
        have w7 := same_upd (o := .lst [.ref r1, .ref r2, .ref r3]) nL
        have w57 := Same.trans w6 w7
        have w47 := Same.trans w5 w57
        have w37 := Same.trans w4 w47
        have w27 := Same.trans w3 w37
        have w17 := Same.trans w2 w27
        have w07 := Same.trans w1 w17
        have pr : Paired (fun (v : V) (p : KO × Int) => ∃ r pk, v = .ref r ∧ (upd (upd (upd (upd (upd (upd (upd H7 p1 (.tup [.int (kv.1.1 + 1), .int kv.1.2])) r1 (.tup [.ref p1, .int 1])) p2 (.tup [.int kv.1.1, .int (kv.1.2 + 1)])) r2 (.tup [.ref p2, .int 1])) p3 (.tup [.int kv.1.1, .int kv.1.2])) r3 (.tup [.ref p3, .int (kv.1.1 + kv.1.2)])) L (.lst [.ref r1, .ref r2, .ref r3])) r = some (.tup [.ref pk, .int p.2]) ∧ (upd (upd (upd (upd (upd (upd (upd H7 p1 (.tup [.int (kv.1.1 + 1), .int kv.1.2])) r1 (.tup [.ref p1, .int 1])) p2 (.tup [.int kv.1.1, .int (kv.1.2 + 1)])) r2 (.tup [.ref p2, .int 1])) p3 (.tup [.int kv.1.1, .int kv.1.2])) r3 (.tup [.ref p3, .int (kv.1.1 + kv.1.2)])) L (.lst [.ref r1, .ref r2, .ref r3])) pk = some (.tup [.int p.1.1, .int p.1.2])) [.ref r1, .ref r2, .ref r3] (threeP kv.1) :=
          .cons ⟨r1, p1, rfl, w27 _ _ upd_same, w17 _ _ upd_same⟩ (.cons ⟨r2, p2, rfl, w47 _ _ upd_same, w37 _ _ upd_same⟩ (.cons ⟨r3, p3, rfl, w7 _ _ upd_same, w57 _ _ upd_same⟩ .nil))
        refine ⟨L, rfl, ⟨_, .inl (.inl upd_same)⟩, ?_⟩
        have hL : upd (upd (upd (upd (upd (upd (upd H7 p1 (.tup [.int (kv.1.1 + 1), .int kv.1.2])) r1 (.tup [.ref p1, .int 1])) p2 (.tup [.int kv.1.1, .int (kv.1.2 + 1)])) r2 (.tup [.ref p2, .int 1])) p3 (.tup [.int kv.1.1, .int kv.1.2])) r3 (.tup [.ref p3, .int (kv.1.1 + kv.1.2)])) L (.lst [.ref r1, .ref r2, .ref r3]) L = some (.lst [.ref r1, .ref r2, .ref r3]) := upd_same
        clear w1 w2 w3 w4 w5 w6 w7 w57 w47 w37 w27 w17
        have nL7 : H7 L = none := by
          have a6 := same_upd (o := .tup [.ref p3, .int (kv.1.1 + kv.1.2)]) m3
          have a5 := same_upd (o := .tup [.int kv.1.1, .int kv.1.2]) n3
          have a4 := same_upd (o := .tup [.ref p2, .int 1]) m2
          have a3 := same_upd (o := .tup [.int kv.1.1, .int (kv.1.2 + 1)]) n2
          have a2 := same_upd (o := .tup [.ref p1, .int 1]) m1
          have a1 := same_upd (o := .tup [.int (kv.1.1 + 1), .int kv.1.2]) n1
          exact none_back (Same.trans a1 (Same.trans a2 (Same.trans a3 (Same.trans a4 (Same.trans a5 a6))))) nL
        clear n1 m1 n2 m2 n3 m3 nL
        have lt3 : (threeP kv.1).length = 3 := rfl
        have hFL := w07 _ _ hF7
        refine for_list (xs := [V.ref r1, V.ref r2, V.ref r3]) (fun j σ H' => ∃ v9 v10, σ = [some (.str z), some (.int n), some (.int t), some (.ref T), some (.int (0 + (k : Int))), some (.ref F), some (.int kv.1.1), some (.int kv.1.2), some (.int many), v9, v10] ∧ SameBut F H7 H' ∧ H' L = some (.lst [V.ref r1, V.ref r2, V.ref r3]) ∧ Paired (fun (v : V) (p : KO × Int) => ∃ r pk, v = .ref r ∧ H' r = some (.tup [.ref pk, .int p.2]) ∧ H' pk = some (.tup [.int p.1.1, .int p.1.2])) [V.ref r1, V.ref r2, V.ref r3] (threeP kv.1) ∧ H' F = some (.dT (encD (((threeP kv.1).take j).foldl (stepQ many) f0))) ∧ (((threeP kv.1).take j).foldl (stepQ many) f0).length ≤ 300 + j)
          ⟨v9, v10, rfl, (fun b o _ e => w07 b o e), hL, pr, hFL, lf2⟩ (fun j σ H' _ ⟨_, _, _, _, h, _⟩ => .inl (.inl h)) (fun j y σ H8 hy hP => ?_) (fun σ H8 hP => ?_)
        · obtain ⟨v9, v10, rfl, sb, hL8, pr8, hF8, l8⟩ := hP
          obtain ⟨p, ep, r, pk, rfl, hr8, hpk8⟩ := paired_get pr8 hy
          have mp := List.mem_of_getElem? ep
          have hj : j < 3 := by
            have := (List.getElem?_eq_some_iff.mp ep).1
            omega
          have bp : 0 ≤ p.2 ∧ p.2 ≤ 200 := by
            unfold threeP at mp
            simp only [List.mem_cons, List.not_mem_nil, or_false] at mp
            rcases mp with rfl | rfl | rfl <;> dsimp only <;> omega
          refine ⟨r, _, rfl, .inl (.inl hr8), rfl, _, _, rfl, _, _, rfl, rfl, ?_⟩
          rw [List.take_succ, ep, List.foldl_append]
          generalize List.foldl (stepQ many) f0 ((threeP kv.1).take j) = f2 at *
          refine ⟨_, rfl, F, rfl, .inr ⟨_, .inl hF8⟩, _, rfl, _, DGet.t (k := encK p.1) hF8 hpk8, ?_⟩
          rw [enc_get]
          refine ⟨_, rfl, _, rfl, _, _, rfl, rfl, .inl ⟨by omega, by omega⟩, _, _, rfl, rfl, ?_⟩
          have e2 : List.foldl (stepQ many) f2 (some p).toList = stepQ many f2 p := rfl
          have l2 := stepQ_len many f2 p
          rw [e2]
          have keep : ∀ {b : Addr} {xs : List V}, H8 b = some (.tup xs) → upd H8 F (.dT (putK (encD f2) (encK p.1) (.int (getN f2 p.1 + p.2 * many)))) b = some (.tup xs) := fun {b xs} e => by
            rw [upd_ne (fun z => by rw [z, hF8] at e; exact nomatch e)]
            exact e
          refine ⟨_, rfl, _, rfl, F, _, rfl, DPut.t (k := encK p.1) hF8 hpk8 (by rw [encD_len]; omega), _, _, rfl, sb.trans SameBut.upd, ?_, ?_, ?_, by omega⟩
          · rw [upd_ne (fun z => by rw [z, hF8] at hL8; exact nomatch hL8)]
            exact hL8
          · exact Paired.mapP pr8 fun _ _ ⟨r, pk, e1, e2, e3⟩ => ⟨r, pk, e1, keep e2, keep e3⟩
          · rw [upd_same, enc_put]
            rfl
        · obtain ⟨v9, v10, rfl, sb, hL8, pr8, hF8, l8⟩ := hP
          exact ⟨_, _, _, _, _, rfl, fun b o e => sb b o (ne_of_none e nFH) (s7 _ _ e), sb _ _ nFT hT7, hF8⟩
      · obtain ⟨v6, v7, v8, v9, v10, rfl, s5, hT5, hF5⟩ := hP
        rw [encD_len, List.take_length] at hF5
        refine ⟨hT5, _, rfl, F, _, _, _, _, _, _, _, rfl, Same.mut s5 nTH, nFH, ?_⟩
        rw [upd_ne (Ne.symm nFT), hF5]
    · obtain ⟨T, v4, v5, v6, v7, v8, v9, v10, rfl, s2, nTH, hT⟩ := hP
      have small := sideP_small n (by omega)
      have ends := endP_small n (by omega) t (by omega)
      unfold endP at q ends
      generalize sideP n = tab at *
      refine ⟨T, _, hT, trivial, fun od => ?_⟩
      have s4 : Same H (upd H2 T (.frz od (.dT (encD tab)))) := Same.mut s2 nTH
      have hT4 : upd H2 T (.frz od (.dT (encD tab))) T = some (.frz od (.dT (encD tab))) := upd_same
      revert s4 hT4
      generalize upd H2 T (.frz od (.dT (encD tab))) = H4
      intro s4 hT4
      refine ⟨_, rfl, T, od, rfl, .inr ⟨_, hT4, fun D nD => ?_⟩⟩
      have nTD := ne_of_none hT4 nD
      refine lc_it walk_keysT (fun i H' => SameBut D H4 H' ∧ H' D = some (.lst ((((tab.take i).filter fun kv => decide (kv.1.1 = (t : Int))).map fun kv => getN tab kv.1).map V.int))) ⟨SameBut.upd, upd_same⟩ (fun i H' _ hP => hP.1 _ _ nTD hT4) (fun i x H5 H6 hi hP hy => ?_) (fun H5 hP => ?_)
      · obtain ⟨sb, hD⟩ := hP
        obtain ⟨rfl, k0, v0, q0, e0, rfl, hq⟩ := hy
        rw [encD_len] at hi
        have ekv : tab[i]? = some tab[i] := List.getElem?_eq_getElem hi
        rw [encD_get ekv] at e0
        obtain ⟨rfl, rfl⟩ := Prod.mk.inj (Option.some.inj e0)
        have fk := getN_at ekv
        have lf1 : ((tab.take i).filter fun kv => decide (kv.1.1 = (t : Int))).length ≤ 100 := by
          have := List.length_filter_le (fun kv : KO × Int => decide (kv.1.1 = (t : Int))) (tab.take i)
          rw [List.length_take] at this
          have := small.1
          omega
        rw [List.take_succ, ekv, List.filter_append]
        have ef : ∀ b : Bool, decide (tab[i].1.1 = (t : Int)) = b → (some tab[i]).toList.filter (fun kv => decide (kv.1.1 = (t : Int))) = if b = true then [tab[i]] else [] := fun b e => by
          show [tab[i]].filter _ = _
          rw [List.filter_cons, e]
          rfl
        generalize tab[i] = kv at *
        have hq' : H6 q0 = some (.tup [.int kv.1.1, .int kv.1.2]) := hq
        refine ⟨rfl, ?_⟩
        refine ⟨_, rfl, q0, _, 0, _, rfl, rfl, .inl (.inl hq'), rfl, _, rfl, rfl, _, rfl, ?_⟩
        by_cases c : kv.1.1 = (t : Int)
        · rw [ef true (decide_eq_true c), if_pos rfl]
          refine if_pos_of (decide_eq_true (congrArg V.int c)) ?_
          refine ⟨_, rfl, _, rfl, T, .int (getN tab kv.1), rfl, .inr ⟨encD tab, encK kv.1, q0, .inr ⟨od, sb _ _ nTD hT4⟩, rfl, hq, by rw [enc_find, fk]; rfl⟩, _, hD, by rw [List.length_map, List.length_map]; omega, sb.trans SameBut.upd, ?_⟩
          rw [upd_same, List.map_append, List.map_append]
          rfl
        · rw [ef false (decide_eq_false c), if_neg Bool.false_ne_true, List.append_nil]
          exact if_neg_of (fun h => c (V.int.inj (of_decide_eq_true h))) ⟨sb, hD⟩
      · obtain ⟨sb, hD⟩ := hP
        rw [encD_len, List.take_length] at hD
        exact ⟨sb _ _ nTD hT4, D, _, rfl, .inl (.inl (by rw [upd_ne (Ne.symm nTD)]; exact hD)), q _ (Same.mut (fun b o e => sb b o (ne_of_none e (none_back s4 nD)) (s4 _ _ e)) nTH)⟩
end

structure ErrT (K : PySem.W.Frag) (mg : Str → Option Value) (CE CF CB : Addr) : Prop where
  ge : mg "WorthError" = some (.ref CE)
  ebc : PySem.W.subIn K (.ref CE) (.type "BaseException") = some true
  ehd : PySem.W.hasDictIn K CE = true
  ety : PySem.W.typeIn K (.ref CE) = some (.type "type")
  g_f : mg "NotFamily" = some (.ref CF)
  x_f : ExcC K CF
  e_f : PySem.W.subIn K (.ref CF) (.ref CE) = some true
  g_b : mg "BadNumber" = some (.ref CB)
  x_b : ExcC K CB
  e_b : PySem.W.subIn K (.ref CB) (.ref CE) = some true
  k_ff : PySem.W.kitOne K (.ref CF) (.ref CF) = some true
  k_fb : PySem.W.kitOne K (.ref CF) (.ref CB) = some false
  k_bf : PySem.W.kitOne K (.ref CB) (.ref CF) = some false
  k_bb : PySem.W.kitOne K (.ref CB) (.ref CB) = some true
def rInt1 : List V → Hp → VK → Prop := fun xs H Q => (∃ i, xs = [V.int i] ∧ Q (V.int i) H) ∨ ∃ k, xs = [V.bl k] ∧ Q (V.int (if k = true then 1 else 0)) H
def t_suite2 (K : PySem.W.Frag) (CF CB : Addr) (e : Nat) (ax : Addr) (cls : Value) (dx : Option Addr) : TS :=
  tRet (tOp (fun x y H Q => ∃ i j, x = V.str i ∧ y = V.str j ∧ i.length + j.length ≤ sizeLine ∧ Q (V.str (i ++ j)) H) (tC (V.str "!")) (tCB (rStrD K) (tCons (tLst (tCons (tCB rInt1 (tCons (tCB (rIsE' K cls dx ax) (tCons (tVar e) (tCons (tC (.ref CF)) tNil))) tNil)) (tCons (tCB rInt1 (tCons (tCB (rIsE' K cls dx ax) (tCons (tVar e) (tCons (tC (.ref CB)) tNil))) tNil)) tNil))) tNil)))
def bitI (b : Bool) : Int := if b = true then 1 else 0
def toldS (b0 b1 : Bool) : Str := ("!" : Str) ++ (dL [bitI b0, bitI b1]).shown
theorem toldS_10 : toldS true false = "![1, 0]" := by decide +kernel
theorem toldS_01 : toldS false true = "![0, 1]" := by decide +kernel
theorem toldS_len : ∀ b0 b1 : Bool, ("!" : Str).length + (dL [bitI b0, bitI b1]).shown.length ≤ 100 := by decide +kernel
theorem suite2 {K : PySem.W.Frag} {CF CB C ax : Addr} {b0 b1 : Bool} {σ : L2.St} {H : Hp} {D : Ends} {e : Nat} (hC : ExcC K C) (h0 : PySem.W.kitOne K (.ref C) (.ref CF) = some b0) (h1 : PySem.W.kitOne K (.ref C) (.ref CB) = some b1)
    (he : σ[e]? = some (some (.ref ax))) (q : ∀ H', Same H H' → D.rt (.str (toldS b0 b1)) H') : t_suite2 K CF CB e ax (.ref C) none D σ H := by
  refine ⟨_, he, C, rfl, rfl, hC, _, _, b0, rfl, fun _ r => r, h0, .inr ⟨b0, rfl, _, he, C, rfl, rfl, hC, _, _, b1, rfl, fun _ r => r, h1, .inr ⟨b1, rfl, (by show 2 ≤ sizeLine; decide), fun L nL => ?_⟩⟩⟩
  have s2 := same_upd (o := .lst ([bitI b0, bitI b1].map V.int)) nL
  have sm := smL_dL (z := [bitI b0, bitI b1]) (B := 2) (fun x hx => by
    have hb : ∃ b : Bool, x = bitI b := by
      rcases List.mem_cons.mp hx with h | hx
      · exact ⟨_, h⟩
      · exact ⟨_, List.mem_singleton.mp hx⟩
    obtain ⟨b, rfl⟩ := hb
    cases b <;> decide) (Nat.le_refl _)
  refine ⟨L, _, rfl, LP.dp (z := [bitI b0, bitI b1]) ⟨L, rfl, upd_same⟩, sm.shaped (by decide), sm.sho, sm.wide (by decide), ?_⟩
  have hl := toldS_len b0 b1
  exact ⟨_, _, rfl, rfl, Nat.le_trans hl (by decide), q _ s2⟩
section
variable {P : Program} {w : World} {K : PySem.W.Frag} {mg : Str → Option Value} {base : Heap}
/-! ### _law_told -/
def spTold : Sp := fun vs H Q _ => ∃ (z : Str) (n m : Int), vs = [.str z, .int n, .int m] ∧ (z ∉ fams → ∀ H', Same H H' → Q (.str "![1, 0]") H') ∧ (z ∈ fams → siz n m = false → ∀ H', Same H H' → Q (.str "![0, 1]") H') ∧
  (z ∈ fams → siz n m = true → ∀ (L : Addr) H', Same H H' → H' L = some (.lst ((byT z n.toNat m.toNat).map V.int)) → Q (.ref L) H')
theorem ok_law_told {f CE CF CB : Addr} {fd : FuncData} (F : Fun K "_law_told" "_law_told" s_law_told f fd) (T : ErrT K mg CE CF CB) (z_isinstance : mg "isinstance" = none) (z_str : mg "str" = none) (z_int : mg "int" = none)
    {a_by_through : Addr} {fd_by_through : FuncData} (G_by_through : FnOk P w K mg base (L2N.CX P w) 8 a_by_through fd_by_through ["family", "n", "m"] (spBy CF CB)) (g_by_through : mg "by_through" = some (.ref a_by_through)) (k_by_through : PySem.W.keepIn K (.ref a_by_through) = true) (b_by_through : Binds K fd_by_through ["family", "n", "m"] []) :
    FnG P w K mg base 9 f fd ["family", "n", "m"] spTold := by
  have gc_WorthError := T.ge
  have m_NotFamily := T.g_f
  have r_NotFamily : RelV (.ref CF) (.ref CF) := rfl
  have m_BadNumber := T.g_b
  have r_BadNumber : RelV (.ref CB) (.ref CB) := rfl
  have eF := PySem.W.exm_ref T.ebc T.ehd T.ety T.e_f
  have eB := PySem.W.exm_ref T.ebc T.ehd T.ety T.e_b
  refine F.okG sc_law_told (fun vs H Q E h => ?_) (fun cdv A outer s H vs Q E hgu hr1 h => ?_)
  · obtain ⟨z, n, m, rfl, _⟩ := h
    rfl
  · obtain ⟨z, n, m, rfl, q1, q2, q3⟩ := h
    have hu67 : (A.deeper (envOfC "_law_told" (defScope s_law_told) s.heap.objs.size f cdv)).units + 67 < cLine := by have := hr1.un; omega
    refine ⟨_, (pss_one (L2N.ps_try_as (i := 3) (Wout := fun _ _ _ _ => False) rfl rfl sc_law_told.nd rfl rfl ⟨rfl, by decide, .inl gc_WorthError⟩ takes0N (fun W pn xe tk _ => by exact (pss_one (ps_ret (pe_callS G_by_through (hr1.mono (by decide)) rfl g_by_through k_by_through b_by_through (fun σ => L2N.passAt tk σ) (pa_cons (pv 0) (pa_cons (pv 1) (pa_cons (pv 2) pa_nil))))))) (fun ax oe cls dx pn hz hf => by exact (pss_one (ps_ret (pe_op L2.op_add_str pe_str (pe_callTy (cr_strD (K := K) rfl hgu hu67) (by rfl) z_str boot_str (pa_cons (pe_lst (pa_cons (pe_callTy call_int1 (by rfl) z_int boot_int (pa_cons (pe_callB (call_isE' hz.zc hf) (by rfl) z_isinstance boot_isinstance (pa_cons (pv 3) (pa_cons (pe_glob rfl m_NotFamily r_NotFamily) pa_nil))) pa_nil)) (pa_cons (pe_callTy call_int1 (by rfl) z_int boot_int (pa_cons (pe_callB (call_isE' hz.zc hf) (by rfl) z_isinstance boot_isinstance (pa_cons (pv 3) (pa_cons (pe_glob rfl m_BadNumber r_BadNumber) pa_nil))) pa_nil)) pa_nil))) pa_nil)))))))), ?_⟩
    have sF : ∀ {H1 : Hp}, Same H H1 → (∀ H', Same H H' → Q (.str "![1, 0]") H') → ∀ ax : Addr, t_suite2 K CF CB 3 ax (.ref CF) none { nx := fun x H' => Q V.non H', rt := Q } ([some (.str z), some (.int n), some (.int m), some (.ref ax)]) H1 := fun s1 q ax =>
      suite2 (e := 3) T.x_f T.k_ff T.k_fb rfl fun H2 s2 => by
        rw [toldS_10]
        exact q H2 (Same.trans s1 s2)
    have sB : ∀ {H1 : Hp}, Same H H1 → (∀ H', Same H H' → Q (.str "![0, 1]") H') → ∀ ax : Addr, t_suite2 K CF CB 3 ax (.ref CB) none { nx := fun x H' => Q V.non H', rt := Q } ([some (.str z), some (.int n), some (.int m), some (.ref ax)]) H1 := fun s1 q ax =>
      suite2 (e := 3) T.x_b T.k_bf T.k_bb rfl fun H2 s2 => by
        rw [toldS_01]
        exact q H2 (Same.trans s1 s2)
    exact ⟨_, rfl, _, rfl, _, rfl, z, n, m, rfl, fun nz => ⟨true, eF, fun _ ax _ => sF (Same.refl _) (q1 nz) ax, fun z => nomatch z⟩, fun mz sz => ⟨true, eB, fun _ ax _ => sB (Same.refl _) (q2 mz sz) ax, fun z => nomatch z⟩, q3⟩
end

def thrB (n : Int) (bs : List (List Int)) : Nat := ((halves n bs).filter bothH).length
theorem thrB_of {n : Nat} {l : List Int} (h : n ≤ l.length) : (endT n l).length = thrB n (blocksOf l) := by
  unfold thrB
  rw [thr_of h, List.length_map]
def stepD (n : Nat) (c : List Int) (bs : List (List Int)) : List Int := c.set (thrB n bs) (co c (thrB n bs) + 1)
def dueL (z : Str) (n m : Nat) : List Int := (listF z n m).foldl (stepD n) (List.replicate (min n m + 1) 0)
theorem stepD_len (n : Nat) (c : List Int) (bs : List (List Int)) : (stepD n c bs).length = c.length := List.length_set ..
theorem foldD_len (n : Nat) : ∀ (ls : List (List (List Int))) (c : List Int), (ls.foldl (stepD n) c).length = c.length
  | [], c => rfl
  | b :: ls, c => by rw [List.foldl_cons, foldD_len n ls, stepD_len]
def Fin81 (z : Str) : Prop := ∀ n, n < 4 → ∀ m, m < 6 → n + m ≤ 5 → cntV z n m ≤ 250 ∧ (∀ k, k < n + m + 1 → (rowsF z n k).length ≤ 10000) ∧ dueL z n m = byT z n m ∧ ∀ bs ∈ listF z n m, thrB n bs ≤ min n m
set_option synthInstance.maxHeartbeats 0 in
set_option synthInstance.maxSize 4000 in
instance (z : Str) : Decidable (Fin81 z) := by unfold Fin81; exact inferInstance
theorem fin81_threads : Fin81 "threads" := by decide +kernel
theorem fin81_loose : Fin81 "loose" := by decide +kernel
theorem fin81_pairs : Fin81 "pairs" := by decide +kernel
theorem fin81_lonepairs : Fin81 "lonepairs" := by decide +kernel
theorem fin81_even : Fin81 "even" := by decide +kernel
theorem fin81_parts : Fin81 "parts" := by decide +kernel
theorem fin81 : ∀ z ∈ fams, Fin81 z := fun z mz => by
  have h : z = "threads" ∨ z = "loose" ∨ z = "pairs" ∨ z = "lonepairs" ∨ z = "even" ∨ z = "parts" := by simpa [fams] using mz
  rcases h with rfl | rfl | rfl | rfl | rfl | rfl
  · exact fin81_threads
  · exact fin81_loose
  · exact fin81_pairs
  · exact fin81_lonepairs
  · exact fin81_even
  · exact fin81_parts
theorem by_sum : ∀ z ∈ fams, ∀ n, n < 9 → ∀ m, m < 9 → n + m ≤ 12 → (byT z n m).sum = cntV z n m := by decide +kernel
theorem by_small : ∀ z ∈ fams, ∀ n, n < 9 → ∀ m, m < 9 → ∀ x ∈ byT z n m, x.natAbs < 2 ^ 60 := by decide +kernel
def fam3 : List Str := ["pairs", "loose", "parts"]
theorem fam3_in : ∀ z ∈ fam3, z ∈ fams := by decide +kernel
def sidesT (z : Str) (n m t : Nat) : Int := lside z n t * lside z m t * prN 1 1 t
theorem by_sides : ∀ z ∈ fam3, ∀ n, n < 9 → ∀ m, m < 9 → n + m ≤ 12 → byT z n m = (List.range (min n m + 1)).map (sidesT z n m) := by decide +kernel
theorem lside_small : ∀ z ∈ fam3, ∀ n, n < 9 → ∀ t, t < 9 → 0 ≤ lside z n t ∧ lside z n t ≤ 1000000 := by decide +kernel

theorem nneV {a b : V} {d : Decidable (a = b)} (e : a = b) : ¬ (!(@decide (a = b) d)) = true := by
  rw [decide_eq_true e]
  exact Bool.false_ne_true
theorem rep_flat : ∀ {k : Nat}, (List.replicate k [V.int 0]).flatten = (List.replicate k (0 : Int)).map V.int
  | 0 => rfl
  | k + 1 => by
    rw [List.replicate_succ, List.replicate_succ, List.flatten_cons, List.map_cons, rep_flat]
    rfl
section
variable {P : Program} {w : World} {K : PySem.W.Frag} {mg : Str → Option Value} {base : Heap}
def spLaw (K : PySem.W.Frag) : Sp := fun vs H Q _ => ∃ (a : Addr) (ns : List Int), vs = [.ref a] ∧ SqL K H a (ns.map V.int) ∧ ns.length ≤ 63 ∧ ∀ H', Q (.bl true) H'
theorem ok_law {f CF CB CT : Addr} {fd : FuncData} (F : Fun K "law" "law" s_law f fd) (z_int : mg "int" = none) (z_range : mg "range" = none) (z_repr : mg "repr" = none) (z_len : mg "len" = none) (z_min : mg "min" = none) (z_sum : mg "sum" = none)
    {a_law_draws : Addr} {fd_law_draws : FuncData} (G_law_draws : FnOk P w K mg base CX0 2 a_law_draws fd_law_draws ["script"] (spDraws K)) (g_law_draws : mg "_law_draws" = some (.ref a_law_draws)) (k_law_draws : PySem.W.keepIn K (.ref a_law_draws) = true) (b_law_draws : Binds K fd_law_draws ["script"] [])
    {a_law_next : Addr} {fd_law_next : FuncData} (G_law_next : FnOk P w K mg base CX0 1 a_law_next fd_law_next ["draws"] spNext) (g_law_next : mg "_law_next" = some (.ref a_law_next)) (k_law_next : PySem.W.keepIn K (.ref a_law_next) = true) (b_law_next : Binds K fd_law_next ["draws"] [])
    {a_law_family : Addr} {fd_law_family : FuncData} (G_law_family : FnOk P w K mg base CX0 2 a_law_family fd_law_family ["draws"] spFamily) (g_law_family : mg "_law_family" = some (.ref a_law_family)) (k_law_family : PySem.W.keepIn K (.ref a_law_family) = true) (b_law_family : Binds K fd_law_family ["draws"] [])
    {a_law_goes : Addr} {fd_law_goes : FuncData} (G_law_goes : FnOk P w K mg base CX0 1 a_law_goes fd_law_goes ["diagram"] spGoes) (g_law_goes : mg "_law_goes" = some (.ref a_law_goes)) (k_law_goes : PySem.W.keepIn K (.ref a_law_goes) = true) (b_law_goes : Binds K fd_law_goes ["diagram"] [])
    {a_law_side : Addr} {fd_law_side : FuncData} (G_law_side : FnOk P w K mg base CX0 2 a_law_side fd_law_side ["family", "n", "t"] spLside) (g_law_side : mg "_law_side" = some (.ref a_law_side)) (k_law_side : PySem.W.keepIn K (.ref a_law_side) = true) (b_law_side : Binds K fd_law_side ["family", "n", "t"] [])
    {a_law_product : Addr} {fd_law_product : FuncData} (G_law_product : FnOk P w K mg base CX0 1 a_law_product fd_law_product ["low", "high", "step"] spProduct) (g_law_product : mg "_law_product" = some (.ref a_law_product)) (k_law_product : PySem.W.keepIn K (.ref a_law_product) = true) (b_law_product : Binds K fd_law_product ["low", "high", "step"] [])
    {a_law_told : Addr} {fd_law_told : FuncData} (G_law_told : FnG P w K mg base  9 a_law_told fd_law_told ["family", "n", "m"] spTold) (g_law_told : mg "_law_told" = some (.ref a_law_told)) (k_law_told : PySem.W.keepIn K (.ref a_law_told) = true) (b_law_told : Binds K fd_law_told ["family", "n", "m"] [])
    {a_listed : Addr} {fd_listed : FuncData} (G_listed : FnOk P w K mg base (L2N.CX P w) 5 a_listed fd_listed ["family", "n", "m"] (spListed CF CB CT)) (g_listed : mg "listed" = some (.ref a_listed)) (k_listed : PySem.W.keepIn K (.ref a_listed) = true) (b_listed : Binds K fd_listed ["family", "n", "m"] [])
    {a_by_through : Addr} {fd_by_through : FuncData} (G_by_through : FnOk P w K mg base (L2N.CX P w) 8 a_by_through fd_by_through ["family", "n", "m"] (spBy CF CB)) (g_by_through : mg "by_through" = some (.ref a_by_through)) (k_by_through : PySem.W.keepIn K (.ref a_by_through) = true) (b_by_through : Binds K fd_by_through ["family", "n", "m"] [])
    {a_counted : Addr} {fd_counted : FuncData} (G_counted : FnOk P w K mg base (L2N.CX P w) 3 a_counted fd_counted ["family", "n", "m"] (spCounted CF CB)) (g_counted : mg "counted" = some (.ref a_counted)) (k_counted : PySem.W.keepIn K (.ref a_counted) = true) (b_counted : Binds K fd_counted ["family", "n", "m"] []) :
    FnG P w K mg base 10 f fd ["script"] (spLaw K) := by
  refine F.okG sc_law (fun vs H Q E h => ?_) (fun cdv A outer s H vs Q E hgu hr h => ?_)
  · obtain ⟨a, ns, rfl, _⟩ := h
    rfl
  · obtain ⟨sc, ns, rfl, hS, hlen, q⟩ := h
    refine ⟨_, (pss_cons (ps_set (i := 1) sc_law.nd rfl (.inl rfl) (pe_call G_law_draws (hr.mono (by decide)) rfl g_law_draws k_law_draws b_law_draws .nil pass0 (pa_cons (pv 0) pa_nil)))
  (pss_cons (ps_expr (pe_bm0 PySem.F.plainAttrs_list PySem.F.slot_list_reverse PySem.F.type_list_reverse mt_reverse (pv 1)))
  (Evl.pss_cut (ps_set (i := 2) sc_law.nd rfl (.inl rfl) (pe_call G_law_family (hr.mono (by decide)) rfl g_law_family k_law_family b_law_family .nil pass0 (pa_cons (pv 1) pa_nil)))
  (Evl.pss_cut (ps_set (i := 3) sc_law.nd rfl (.inl rfl) (pe_op op_mod (pe_callTy call_int1 (by rfl) z_int boot_int (pa_cons (pe_call G_law_next (hr.mono (by decide)) rfl g_law_next k_law_next b_law_next .nil pass0 (pa_cons (pv 1) pa_nil)) pa_nil)) pe_int))
  (Evl.pss_cut (ps_set (i := 4) sc_law.nd rfl (.inl rfl) (pe_op op_mod (pe_callTy call_int1 (by rfl) z_int boot_int (pa_cons (pe_call G_law_next (hr.mono (by decide)) rfl g_law_next k_law_next b_law_next .nil pass0 (pa_cons (pv 1) pa_nil)) pa_nil)) (pe_op op_sub pe_int (pv 3))))
  (Evl.pss_cut (ps_set (i := 5) sc_law.nd rfl (.inl rfl) (pe_op op_rep (pe_lst (pa_cons pe_int pa_nil)) (pe_op op_add (pe_callB (call_min2 rfl) (by rfl) z_min boot_min (pa_cons (pv 3) (pa_cons (pv 4) pa_nil))) pe_int)))
  (Evl.pss_cut (ps_for PassesOwn.never rfl (pi_list (pe_call G_listed (hr.mono (by decide)) rfl g_listed k_listed b_listed .nil passLN (pa_cons (pv 2) (pa_cons (pv 3) (pa_cons (pv 4) pa_nil))))) (pg_name (i := 6) sc_law.nd rfl (.inl rfl)) (pss_one (ps_asg (pe_op op_add (pe_ix ix_list (pv 5) (pe_callB call_len_seq (by rfl) z_len boot_len (pa_cons (pe_call G_law_goes (hr.mono (by decide)) rfl g_law_goes k_law_goes b_law_goes .nil pass0 (pa_cons (pv 6) pa_nil)) pa_nil)) (fun _ _ => rfl)) pe_int) (pg_sub (pv 5) (pe_callB call_len_seq (by rfl) z_len boot_len (pa_cons (pe_call G_law_goes (hr.mono (by decide)) rfl g_law_goes k_law_goes b_law_goes .nil pass0 (pa_cons (pv 6) pa_nil)) pa_nil)) set_list))))
  (Evl.pss_cut (ps_if (pt_cmpR op_ne (pe_callB (cr_reprD hgu (room65 hr)) (by rfl) z_repr boot_repr (pa_cons (pe_callG hgu G_law_told (hr.mono (by decide)) rfl g_law_told k_law_told b_law_told .nil (pa_cons (pv 2) (pa_cons (pv 3) (pa_cons (pv 4) pa_nil)))) pa_nil)) (pe_callB (cr_reprD hgu (room65 hr)) (by rfl) z_repr boot_repr (pa_cons (pv 5) pa_nil)) (nomark _)) (pss_one (ps_ret pe_bl)) pss_nil)
  (Evl.pss_cut (ps_set (i := 3) sc_law.nd rfl (.inl rfl) (pe_op op_mod (pe_callTy call_int1 (by rfl) z_int boot_int (pa_cons (pe_call G_law_next (hr.mono (by decide)) rfl g_law_next k_law_next b_law_next .nil pass0 (pa_cons (pv 1) pa_nil)) pa_nil)) pe_int))
  (Evl.pss_cut (ps_set (i := 4) sc_law.nd rfl (.inl rfl) (pe_op op_mod (pe_callTy call_int1 (by rfl) z_int boot_int (pa_cons (pe_call G_law_next (hr.mono (by decide)) rfl g_law_next k_law_next b_law_next .nil pass0 (pa_cons (pv 1) pa_nil)) pa_nil)) (pe_op op_add (pe_callB (call_min2 rfl) (by rfl) z_min boot_min (pa_cons pe_int (pa_cons (pe_op op_sub pe_int (pv 3)) pa_nil))) pe_int)))
  (Evl.pss_cut (ps_set (i := 7) sc_law.nd rfl (.inl rfl) (pe_call G_by_through (hr.mono (by decide)) rfl g_by_through k_by_through b_by_through .nil passLN (pa_cons (pv 2) (pa_cons (pv 3) (pa_cons (pv 4) pa_nil)))))
  (Evl.pss_cut (ps_if (L2.PW.pt (pw_or (pt_cmpR op_ne (pe_callB call_len_seq (by rfl) z_len boot_len (pa_cons (pv 7) pa_nil)) (pe_op op_add (pe_callB (call_min2 rfl) (by rfl) z_min boot_min (pa_cons (pv 3) (pa_cons (pv 4) pa_nil))) pe_int) (nomark _)) (pw_or1 (pt_cmpR op_ne (pe_callB (cr_sum rfl) (by rfl) z_sum boot_sum (pa_cons (pv 7) pa_nil)) (pe_call G_counted (hr.mono (by decide)) rfl g_counted k_counted b_counted .nil passLN (pa_cons (pv 2) (pa_cons (pv 3) (pa_cons (pv 4) pa_nil)))) (nomark _))))) (pss_one (ps_ret pe_bl)) pss_nil)
  (Evl.pss_cut (ps_for PassesOwn.never rfl (pi_list (pe_lst (pa_cons pe_str (pa_cons pe_str (pa_cons pe_str pa_nil))))) (pg_name (i := 8) sc_law.nd rfl (.inl rfl)) (pss_cons (ps_set (i := 5) sc_law.nd rfl (.inl rfl) (pe_lst pa_nil))
  (Evl.pss_cut (ps_for PassesOwn.never rfl (pi_range1 rfl z_range (pa_cons (pe_op op_add (pe_callB (call_min2 rfl) (by rfl) z_min boot_min (pa_cons (pv 3) (pa_cons (pv 4) pa_nil))) pe_int) pa_nil)) (pg_name (i := 9) sc_law.nd rfl (.inl rfl)) (pss_one (ps_expr (pe_bm PySem.F.plainAttrs_list PySem.F.slot_list_append PySem.F.type_list_append mt_append (pv 5) (pa_cons (pe_op op_mul (pe_op op_mul (pe_call G_law_side (hr.mono (by decide)) rfl g_law_side k_law_side b_law_side .nil pass0 (pa_cons (pv 8) (pa_cons (pv 3) (pa_cons (pv 9) pa_nil)))) (pe_call G_law_side (hr.mono (by decide)) rfl g_law_side k_law_side b_law_side .nil pass0 (pa_cons (pv 8) (pa_cons (pv 4) (pa_cons (pv 9) pa_nil))))) (pe_call G_law_product (hr.mono (by decide)) rfl g_law_product k_law_product b_law_product .nil pass0 (pa_cons pe_int (pa_cons (pv 9) (pa_cons pe_int pa_nil))))) pa_nil)))))
  (pss_one (ps_if (pt_cmpR op_ne (pe_callB (cr_reprD hgu (room65 hr)) (by rfl) z_repr boot_repr (pa_cons (pe_callG hgu G_law_told (hr.mono (by decide)) rfl g_law_told k_law_told b_law_told .nil (pa_cons (pv 8) (pa_cons (pv 3) (pa_cons (pv 4) pa_nil)))) pa_nil)) (pe_callB (cr_reprD hgu (room65 hr)) (by rfl) z_repr boot_repr (pa_cons (pv 5) pa_nil)) (nomark _)) (pss_one (ps_ret pe_bl)) pss_nil)))))
  (pss_one (ps_ret (pe_and (pe_cmpR op_eq (pe_callG hgu G_law_told (hr.mono (by decide)) rfl g_law_told k_law_told b_law_told .nil (pa_cons pe_str (pa_cons pe_int (pa_cons pe_int pa_nil)))) pe_str (nomark _)) (pe_one (pe_cmpR op_eq (pe_callG hgu G_law_told (hr.mono (by decide)) rfl g_law_told k_law_told b_law_told .nil (pa_cons (pv 2) (pa_cons pe_int (pa_cons pe_int pa_nil)))) pe_str (nomark _))))))))))))))))))), ?_⟩
    have szl : 20000 ≤ sizeLine := by decide
    have szb : 3000000 ≤ sizeLine := by decide
    refine ⟨_, rfl, sc, ns, rfl, hS, hlen, fun H1 r ds s1 nr hL => ?_⟩
    refine ⟨_, rfl, .inl ⟨rfl, _, .inl (.inl hL)⟩, r, _, rfl, rfl, hL, ?_⟩
    have hr1 : upd H1 r (.lst (ds.map V.int).reverse) r = some (.lst (ds.reverse.map V.int)) := by rw [upd_same, List.map_reverse]
    revert hr1
    generalize upd H1 r (.lst (ds.map V.int).reverse) = H2
    generalize ds.reverse = ds
    intro hr1
    clear hL s1 nr hS
    refine ⟨fun σ H' => ∃ (z : Str) (ds1 : List Int), z ∈ fams ∧ σ = [some (.ref sc), some (.ref r), some (.str z), none, none, none, none, none, none, none] ∧ H' r = some (.lst (ds1.map V.int)), ?_, ?_⟩
    · exact ⟨_, rfl, r, ds, rfl, hr1, fun z ds2 H7 mz _ hr7 => ⟨z, ds2, mz, rfl, hr7⟩⟩
    clear hr1
    rintro σ H3 ⟨z, ds1, mz, rfl, hr3⟩
    refine ⟨fun σ H' => ∃ (n : Nat) (ds1 : List Int), n < 4 ∧ σ = [some (.ref sc), some (.ref r), some (.str z), some (.int (n : Int)), none, none, none, none, none, none] ∧ H' r = some (.lst (ds1.map V.int)), ?_, ?_⟩
    · refine ⟨_, rfl, r, ds1, rfl, hr3, fun n0 ds3 => .inl ⟨n0, rfl, n0, 4, rfl, rfl, (by decide : (0 : Int) < 4), ?_⟩⟩
      exact ⟨(n0 % 4).toNat, ds3, by omega, by dsimp only; rw [Int.toNat_of_nonneg (by omega)]; rfl, upd_same⟩
    clear hr3
    rintro σ H4 ⟨n, ds2, hn, rfl, hr4⟩
    refine ⟨fun σ H' => ∃ (m : Nat) (ds1 : List Int), n + m ≤ 5 ∧ σ = [some (.ref sc), some (.ref r), some (.str z), some (.int (n : Int)), some (.int (m : Int)), none, none, none, none, none] ∧ H' r = some (.lst (ds1.map V.int)), ?_, ?_⟩
    · refine ⟨_, rfl, r, ds2, rfl, hr4, fun n0 ds3 => .inl ⟨n0, rfl, _, rfl, _, _, rfl, rfl, n0, 6 - (n : Int), rfl, rfl, (by show (0 : Int) < 6 - n; omega), ?_⟩⟩
      have b1 := Int.emod_nonneg n0 (show 6 - (n : Int) ≠ 0 by omega)
      have b2 := Int.emod_lt_of_pos n0 (show 0 < 6 - (n : Int) by omega)
      exact ⟨(n0 % (6 - n)).toNat, ds3, by omega, by dsimp only; rw [Int.toNat_of_nonneg (by omega)]; rfl, upd_same⟩
    clear hr4
    rintro σ H5 ⟨m, ds3, hm, rfl, hr5⟩
    obtain ⟨c250, rows, eD, thr⟩ := fin81 z mz n hn m (by omega) hm
    have em : (if (m : Int) < (n : Int) then (m : Int) else (n : Int)) + 1 = ((min n m + 1 : Nat) : Int) := by split <;> omega
    refine ⟨fun σ H' => ∃ (D : Addr), σ = [some (.ref sc), some (.ref r), some (.str z), some (.int (n : Int)), some (.int (m : Int)), some (.ref D), none, none, none, none] ∧ r ≠ D ∧ H' r = some (.lst (ds3.map V.int)) ∧ H' D = some (.lst ((List.replicate (min n m + 1) (0 : Int)).map V.int)), ?_, ?_⟩
    · refine ⟨(by show 1 ≤ sizeLine; decide), fun L nL => ?_⟩
      have w6 := same_upd (o := .lst [.int 0]) nL
      refine ⟨_, rfl, _, rfl, _, _, rfl, _, _, rfl, rfl, ?_⟩
      refine ⟨L, ((min n m + 1 : Nat) : Int), [.int 0], rfl, congrArg V.int em, upd_same, by omega, by omega, ?_, fun p np => ?_⟩
      · show 1 * (min n m + 1) ≤ sizeLine
        omega
      · have w7 := same_upd (o := .lst (List.replicate ((min n m + 1 : Nat) : Int).toNat [V.int 0]).flatten) np
        refine ⟨p, rfl, fun e => ?_, w7 _ _ (w6 _ _ hr5), ?_⟩
        · have := w6 _ _ hr5
          rw [e, np] at this
          exact nomatch this
        · rw [upd_same, Int.toNat_natCast]
          exact congrArg (fun z => some (HO.lst z)) rep_flat
    clear hr5
    rintro σ H6 ⟨D, rfl, rD, hr6, hD6⟩
    refine ⟨fun σ H' => ∃ v6, σ = [some (.ref sc), some (.ref r), some (.str z), some (.int (n : Int)), some (.int (m : Int)), some (.ref D), v6, none, none, none] ∧ H' r = some (.lst (ds3.map V.int)) ∧ H' D = some (.lst ((byT z n m).map V.int)), ?_, ?_⟩
    · have zs : siz (n : Int) (m : Int) = true := siz_iff.mpr ⟨by omega, by omega, by omega, by omega, by omega⟩
      refine ⟨_, rfl, _, rfl, _, rfl, z, n, m, rfl, fun no => absurd mz no, fun _ no => (nomatch no.symm.trans zs), fun _ _ => ⟨fun big => absurd c250 (by have big : 250 < cntV z n m := big; omega), fun _ => ⟨fun _ k hk => rows k (by have hk : k ≤ n + m := hk; omega), fun L ps H7 s7 hL pr => ?_⟩⟩⟩
      have pr : Paired (fun v bs => DGv H7 v n m bs) ps (listF z n m) := pr
      have hD7 := s7 _ _ hD6
      have hr7 := s7 _ _ hr6
      have lps := pr.length
      have LD : L ≠ D := fun e => by
        rw [e, hD7] at hL
        have ep := HO.lst.inj (Option.some.inj hL)
        have e0 : ps[0]? = some (V.int 0) := by
          rw [← ep, List.replicate_succ]
          rfl
        obtain ⟨bs, _, t, vb, et, _⟩ := paired_at pr e0
        exact nomatch et
      refine ⟨L, rfl, ⟨_, .inl (.inl hL)⟩, for_list (xs := ps) (fun i σ H' => ∃ v6, σ = [some (.ref sc), some (.ref r), some (.str z), some (.int (n : Int)), some (.int (m : Int)), some (.ref D), v6, none, none, none] ∧ SameBut D H7 H' ∧ H' D = some (.lst ((((listF z n m).take i).foldl (stepD n) (List.replicate (min n m + 1) 0)).map V.int)))
        ⟨none, rfl, fun _ _ _ e => e, hD7⟩ (fun i σ H' _ ⟨_, _, sb, _⟩ => .inl (.inl (sb _ _ LD hL))) (fun i x σ H8 hx hP => ?_) (fun σ H8 hP => ?_)⟩
      · obtain ⟨v6, rfl, sb, hD8⟩ := hP
        obtain ⟨bs, eb, dv⟩ := paired_at pr hx
        have mb := List.mem_of_getElem? eb
        have tb := thr bs mb
        obtain ⟨l, rfl, ll⟩ : ∃ l, bs = blocksOf l ∧ l.length = n + m := by
          unfold listF at mb
          split at mb
          · exact nomatch mb
          · obtain ⟨row, hrow, rfl⟩ := List.mem_map.mp (List.mem_filter.mp mb).1
            exact ⟨row, rfl, (rowsF_ok hrow).1⟩
        have da : DgAt H8 x n m l := ⟨dv.butL hD7 sb, zs, by omega⟩
        have eL := thrB_of (n := n) (l := l) (by omega)
        have lc := foldD_len n ((listF z n m).take i) (List.replicate (min n m + 1) 0)
        rw [List.length_replicate] at lc
        rw [List.take_succ, eb, List.foldl_append]
        generalize ((listF z n m).take i).foldl (stepD n) (List.replicate (min n m + 1) 0) = c at *
        have eS : List.foldl (stepD n) c (some (blocksOf l)).toList = c.set (thrB n (blocksOf l)) (co c (thrB n (blocksOf l)) + 1) := rfl
        rw [eS]
        rw [← eL] at tb ⊢
        refine ⟨_, rfl, _, rfl, x, n, m, l, rfl, da, fun L2 es H9 s9 hL2 le => ?_⟩
        refine ⟨L2, es, rfl, .inl (.inl (.inl hL2)), D, c.map V.int, _, .int (co c (endT n l).length), rfl, congrArg (fun z : Nat => V.int (z : Int)) le, .inl (.inl (s9 _ _ hD8)), atI_nat (by rw [List.getElem?_map, co_get (by omega)]; rfl), _, _, rfl, rfl, ?_⟩
        refine ⟨_, rfl, _, rfl, x, n, m, l, rfl, da.same s9, fun L3 es3 H10 s10 hL3 le3 => ?_⟩
        refine ⟨L3, es3, rfl, .inl (.inl (.inl hL3)), D, c.map V.int, _, (endT n l).length, rfl, congrArg (fun z : Nat => V.int (z : Int)) le3, s10 _ _ (s9 _ _ hD8), ixN_nat (by rw [List.length_map]; omega), _, rfl, ?_, ?_⟩
        · exact fun b o nb e => by
            rw [upd_ne nb]
            exact s10 _ _ (s9 _ _ (sb b o nb e))
        · rw [upd_same, List.map_set]
      · obtain ⟨v6, rfl, sb, hD8⟩ := hP
        rw [lps, List.take_length] at hD8
        exact ⟨_, rfl, sb _ _ rD hr7, hD8.trans (congrArg (fun z : List Int => some (HO.lst (z.map V.int))) eD)⟩
    clear hr6 hD6
    rintro σ H7 ⟨v6, rfl, hr7, hD7⟩
    refine ⟨fun σ H' => ∃ v3 v4, σ = [some (.ref sc), some (.ref r), some (.str z), v3, v4, some (.ref D), v6, none, none, none] ∧ H' r = some (.lst (ds3.map V.int)), ?_, ?_⟩
    · have zs : siz (n : Int) (m : Int) = true := siz_iff.mpr ⟨by omega, by omega, by omega, by omega, by omega⟩
      refine ⟨_, rfl, _, rfl, _, rfl, z, n, m, rfl, fun no => absurd mz no, fun _ no => (nomatch no.symm.trans zs), fun _ _ L H8 s8 hL => ?_⟩
      have hL : H8 L = some (.lst ((byT z n m).map V.int)) := hL
      have sm := smL_dL (z := byT z n m) (B := 20) (fun x hx => Nat.lt_trans (by_small z mz n (by omega) m (by omega) x hx) (by decide)) (by rw [by_len z mz n (by omega) m (by omega)]; omega)
      refine ⟨_, _, rfl, LP.dp (z := byT z n m) ⟨L, rfl, hL⟩, sm.shaped (by decide), sm.sho, sm.wide (by decide), _, rfl, _, _, rfl, LP.dp (z := byT z n m) ⟨D, rfl, s8 _ _ hD7⟩, sm.shaped (by decide), sm.sho, sm.wide (by decide), rfl, ?_⟩
      generalize PyData.shown _ = X
      exact ⟨_, rfl, if_neg_of (by rw [decide_eq_true rfl]; exact Bool.false_ne_true) ⟨_, _, rfl, s8 _ _ hr7⟩⟩
    clear hr7 hD7 eD thr rows c250 em hm hn rD
    rintro σ H8 ⟨v3, v4, rfl, hr8⟩
    clear m n
    refine ⟨fun σ H' => ∃ (n : Nat) (ds1 : List Int), n < 9 ∧ σ = [some (.ref sc), some (.ref r), some (.str z), some (.int (n : Int)), v4, some (.ref D), v6, none, none, none] ∧ H' r = some (.lst (ds1.map V.int)), ?_, ?_⟩
    · refine ⟨_, rfl, r, ds3, rfl, hr8, fun n0 ds3 => .inl ⟨n0, rfl, n0, 9, rfl, rfl, (by decide : (0 : Int) < 9), ?_⟩⟩
      exact ⟨(n0 % 9).toNat, ds3, by omega, by dsimp only; rw [Int.toNat_of_nonneg (by omega)]; rfl, upd_same⟩
    clear hr8
    rintro σ H9 ⟨n, ds4, hn, rfl, hr9⟩
    refine ⟨fun σ H' => ∃ (m : Nat) (ds1 : List Int), m < 9 ∧ n + m ≤ 12 ∧ σ = [some (.ref sc), some (.ref r), some (.str z), some (.int (n : Int)), some (.int (m : Int)), some (.ref D), v6, none, none, none] ∧ H' r = some (.lst (ds1.map V.int)), ?_, ?_⟩
    · refine ⟨_, rfl, r, ds4, rfl, hr9, fun n0 ds3 => .inl ⟨n0, rfl, _, rfl, _, _, rfl, rfl, _, _, rfl, _, _, rfl, rfl, ?_⟩⟩
      generalize ek : (if 12 - (n : Int) < 8 then 12 - (n : Int) else 8) = k
      have bk : 0 ≤ k ∧ k ≤ 8 ∧ k + n ≤ 12 := by
        rw [← ek]
        split <;> omega
      have b1 := Int.emod_nonneg n0 (show k + 1 ≠ 0 by omega)
      have b2 := Int.emod_lt_of_pos n0 (show 0 < k + 1 by omega)
      exact ⟨n0, k + 1, rfl, rfl, (by show (0 : Int) < k + 1; omega), (n0 % (k + 1)).toNat, ds3, by omega, by omega, by dsimp only; rw [Int.toNat_of_nonneg (by omega)]; rfl, upd_same⟩
    clear hr9
    rintro σ H10 ⟨m, ds5, hm, hnm, rfl, hr10⟩
    clear hr10
    have zs : siz (n : Int) (m : Int) = true := siz_iff.mpr ⟨by omega, by omega, by omega, by omega, by omega⟩
    have em : (if (m : Int) < (n : Int) then (m : Int) else (n : Int)) + 1 = ((min n m + 1 : Nat) : Int) := by split <;> omega
    refine ⟨fun σ H' => ∃ (L : Addr), σ = [some (.ref sc), some (.ref r), some (.str z), some (.int (n : Int)), some (.int (m : Int)), some (.ref D), v6, some (.ref L), none, none] ∧ H' L = some (.lst ((byT z n m).map V.int)), ?_, ?_⟩
    · refine ⟨_, rfl, _, rfl, _, rfl, z, n, m, rfl, fun no => absurd mz no, fun _ no => (nomatch no.symm.trans zs), fun _ _ L H8 s8 hL => ?_⟩
      exact ⟨L, rfl, hL⟩
    rintro σ H11 ⟨L, rfl, hL⟩
    refine ⟨fun σ H' => σ = [some (.ref sc), some (.ref r), some (.str z), some (.int (n : Int)), some (.int (m : Int)), some (.ref D), v6, some (.ref L), none, none], ?_, ?_⟩
    · refine ⟨_, rfl, L, _, rfl, .inl (.inl (.inl hL)), _, rfl, _, rfl, _, _, rfl, _, _, rfl, rfl, rfl, ?_⟩
      refine ⟨_, rfl, if_neg_of (nneV (congrArg V.int (by rw [List.length_map, by_len z mz n hn m hm]; exact em.symm))) ?_⟩
      refine ⟨_, rfl, L, byT z n m, rfl, .inl (.inl hL), _, rfl, _, rfl, _, rfl, z, n, m, rfl, fun no => absurd mz no, fun _ no => (nomatch no.symm.trans zs), fun _ _ H12 s12 => ?_⟩
      rw [by_sum z mz n hn m hm hnm]
      exact ⟨rfl, _, rfl, if_neg_of (by rw [Int.toNat_natCast, Int.toNat_natCast, decide_eq_true rfl]; exact Bool.false_ne_true) rfl⟩
    rintro σ H12 rfl
    clear hL
    refine ⟨fun σ H' => ∃ v3 v4 v5 v6 v7 v8 v9, σ = [some (.ref sc), some (.ref r), some (.str z), v3, v4, v5, v6, v7, v8, v9], ?_, ?_⟩
    · refine ⟨(by show 3 ≤ sizeLine; decide), fun LN nLN => ⟨LN, rfl, ⟨_, .inl (.inl upd_same)⟩, ?_⟩⟩
      refine for_list (xs := fam3.map V.str) (fun i σ H' => ∃ v5 v8 v9, σ = [some (.ref sc), some (.ref r), some (.str z), some (.int (n : Int)), some (.int (m : Int)), v5, v6, some (.ref L), v8, v9] ∧ H' LN = some (.lst (fam3.map V.str)))
        ⟨_, _, _, rfl, upd_same⟩ (fun i σ H' _ ⟨_, _, _, _, h⟩ => .inl (.inl h)) (fun i x σ H13 hx hP => ?_) (fun σ H13 hP => ?_)
      · obtain ⟨v5, v8, v9, rfl, hLN⟩ := hP
        rw [List.getElem?_map] at hx
        obtain ⟨nm, enm, rfl⟩ := Option.map_eq_some_iff.mp hx
        have m3 := List.mem_of_getElem? enm
        have mn := fam3_in nm m3
        refine ⟨(by show 0 ≤ sizeLine; decide), fun D2 nD2 => ?_⟩
        have w14 := same_upd (o := .lst []) nD2
        refine ⟨fun σ H' => ∃ v9, σ = [some (.ref sc), some (.ref r), some (.str z), some (.int (n : Int)), some (.int (m : Int)), some (.ref D2), v6, some (.ref L), some (.str nm), v9] ∧ Same H13 H' ∧ H' D2 = some (.lst ((byT nm n m).map V.int)), ?_, ?_⟩
        · refine ⟨_, rfl, _, rfl, _, _, rfl, _, _, rfl, rfl, ((min n m + 1 : Nat) : Int), congrArg (fun z => [V.int z]) em, by omega, by omega, ?_⟩
          rw [Int.toNat_natCast]
          refine for_range (lo := 0) (n := min n m + 1) (fun i σ H' => ∃ v9, σ = [some (.ref sc), some (.ref r), some (.str z), some (.int (n : Int)), some (.int (m : Int)), some (.ref D2), v6, some (.ref L), some (.str nm), v9] ∧ Same H13 H' ∧ H' D2 = some (.lst (((List.range i).map (sidesT nm n m)).map V.int)))
            ⟨v9, rfl, w14, upd_same⟩ (fun i σ H14 hi hP => ?_) (fun σ H14 hP => ?_)
          · obtain ⟨v9, rfl, s14, hD14⟩ := hP
            have l1 := lside_small nm m3 n hn i (by omega)
            have l2 := lside_small nm m3 m hm i (by omega)
            have p1 := prN_small1 i (by omega)
            refine ⟨_, rfl, .inl ⟨rfl, _, .inl (.inl hD14)⟩, _, rfl, _, rfl, _, rfl, nm, n, i, congrArg (fun x => [V.str nm, V.int (n : Int), V.int x]) (Int.zero_add (i : Int)), by omega, by omega, fun H15 s15 => ⟨_, rfl, _, rfl, _, rfl, nm, m, i, congrArg (fun x => [V.str nm, V.int (m : Int), V.int x]) (Int.zero_add (i : Int)), by omega, by omega, fun H16 s16 => ?_⟩⟩
            have pm : 0 ≤ lside nm n i * lside nm m i ∧ lside nm n i * lside nm m i ≤ 1000000 * 1000000 := ⟨Int.mul_nonneg (by omega) (by omega), Int.mul_le_mul l1.2 l2.2 (by omega) (by omega)⟩
            have hD16 := s16 _ _ (s15 _ _ hD14)
            refine ⟨_, _, rfl, rfl, .inl ⟨by omega, by omega⟩, _, rfl, 1, 0 + (i : Int), 1, i, rfl, by rw [Int.zero_add]; exact rg_1 i (by omega), fun j hj => ?_, _, _, rfl, rfl, .inl ⟨by omega, by omega⟩, D2, _, _, rfl, rfl, hD16, by rw [List.length_map, List.length_map, List.length_range]; omega, _, rfl, fun b o e => ?_, ?_⟩
            · have := prN_small1 j (by omega)
              omega
            · rw [upd_ne (fun z => by rw [z, nD2] at e; exact nomatch e)]
              exact s16 _ _ (s15 _ _ (s14 _ _ e))
            · rw [upd_same, List.range_succ, List.map_append, List.map_append]
              rfl
          · obtain ⟨v9, rfl, s14, hD14⟩ := hP
            rw [← by_sides nm m3 n hn m hm hnm] at hD14
            exact ⟨v9, rfl, s14, hD14⟩
        rintro σ H17 ⟨v9, rfl, s17, hD17⟩
        refine ⟨_, rfl, _, rfl, _, rfl, nm, n, m, rfl, fun no => absurd mn no, fun _ no => (nomatch no.symm.trans zs), fun _ _ L3 H18 s18 hL3 => ?_⟩
        have hL3 : H18 L3 = some (.lst ((byT nm n m).map V.int)) := hL3
        have sm := smL_dL (z := byT nm n m) (B := 20) (fun x hx => Nat.lt_trans (by_small nm mn n (by omega) m (by omega) x hx) (by decide)) (by rw [by_len nm mn n (by omega) m (by omega)]; omega)
        refine ⟨_, _, rfl, LP.dp (z := byT nm n m) ⟨L3, rfl, hL3⟩, sm.shaped (by decide), sm.sho, sm.wide (by decide), _, rfl, _, _, rfl, LP.dp (z := byT nm n m) ⟨D2, rfl, s18 _ _ hD17⟩, sm.shaped (by decide), sm.sho, sm.wide (by decide), rfl, ?_⟩
        generalize PyData.shown _ = X
        exact ⟨_, rfl, if_neg_of (by rw [decide_eq_true rfl]; exact Bool.false_ne_true) ⟨_, _, _, rfl, s18 _ _ (s17 _ _ hLN)⟩⟩
      · obtain ⟨v5, v8, v9, rfl, _⟩ := hP
        exact ⟨_, _, _, _, _, _, _, rfl⟩
    rintro σ H13 ⟨v3, v4, v5, v6, v7, v8, v9, rfl⟩
    refine ⟨"flat", 9, 9, rfl, fun _ H14 _ => ⟨rfl, _, rfl, if_pos_of (decide_eq_true rfl) ?_⟩, fun h => absurd h (by decide), fun h => absurd h (by decide)⟩
    refine ⟨_, rfl, z, 7, 6, rfl, fun no => absurd mz no, fun _ _ H15 _ => ⟨rfl, ?_⟩, fun _ no => nomatch no⟩
    dsimp only
    rw [decide_eq_true rfl]
    exact q H15
end

theorem all_mk {P : Program} {w : World} {K : PySem.W.Frag} {h : Heap} {mg : Str → Option Value} {fa : Addr} (X : K.In h) (G : h.Ns mainGlobals mg) (hfa : mg "law" = some (.ref fa))
    {f_law_number : Addr} {od_law_number an_law_number : Option Addr} {sl_law_number : Array (Option Value)} {oc_law_number kV_law_number dc_law_number pm_law_number cd_law_number ct_law_number : Value}
    {f_law_next : Addr} {od_law_next an_law_next : Option Addr} {sl_law_next : Array (Option Value)} {oc_law_next kV_law_next dc_law_next pm_law_next cd_law_next ct_law_next : Value}
    {f_law_draws : Addr} {od_law_draws an_law_draws : Option Addr} {sl_law_draws : Array (Option Value)} {oc_law_draws kV_law_draws dc_law_draws pm_law_draws cd_law_draws ct_law_draws : Value}
    {f_law_family : Addr} {od_law_family an_law_family : Option Addr} {sl_law_family : Array (Option Value)} {oc_law_family kV_law_family dc_law_family pm_law_family cd_law_family ct_law_family : Value}
    {f_is_size_ : Addr} {od_is_size_ an_is_size_ : Option Addr} {sl_is_size_ : Array (Option Value)} {oc_is_size_ kV_is_size_ dc_is_size_ pm_is_size_ cd_is_size_ ct_is_size_ : Value}
    {f_check_size_ : Addr} {od_check_size_ an_check_size_ : Option Addr} {sl_check_size_ : Array (Option Value)} {oc_check_size_ kV_check_size_ dc_check_size_ pm_check_size_ cd_check_size_ ct_check_size_ : Value}
    {f_is_diagram : Addr} {od_is_diagram an_is_diagram : Option Addr} {sl_is_diagram : Array (Option Value)} {oc_is_diagram kV_is_diagram dc_is_diagram pm_is_diagram cd_is_diagram ct_is_diagram : Value}
    {f_check_diagram : Addr} {od_check_diagram an_check_diagram : Option Addr} {sl_check_diagram : Array (Option Value)} {oc_check_diagram kV_check_diagram dc_check_diagram pm_check_diagram cd_check_diagram ct_check_diagram : Value}
    {f_from_labels : Addr} {od_from_labels an_from_labels : Option Addr} {sl_from_labels : Array (Option Value)} {oc_from_labels kV_from_labels dc_from_labels pm_from_labels cd_from_labels ct_from_labels : Value}
    {f_check_family : Addr} {od_check_family an_check_family : Option Addr} {sl_check_family : Array (Option Value)} {oc_check_family kV_check_family dc_check_family pm_check_family cd_check_family ct_check_family : Value}
    {f_is_strand_ : Addr} {od_is_strand_ an_is_strand_ : Option Addr} {sl_is_strand_ : Array (Option Value)} {oc_is_strand_ kV_is_strand_ dc_is_strand_ pm_is_strand_ cd_is_strand_ ct_is_strand_ : Value}
    {f_is_block_size_ : Addr} {od_is_block_size_ an_is_block_size_ : Option Addr} {sl_is_block_size_ : Array (Option Value)} {oc_is_block_size_ kV_is_block_size_ dc_is_block_size_ pm_is_block_size_ cd_is_block_size_ ct_is_block_size_ : Value}
    {f_is_block_of_ : Addr} {od_is_block_of_ an_is_block_of_ : Option Addr} {sl_is_block_of_ : Array (Option Value)} {oc_is_block_of_ kV_is_block_of_ dc_is_block_of_ pm_is_block_of_ cd_is_block_of_ ct_is_block_of_ : Value}
    {f_is_in : Addr} {od_is_in an_is_in : Option Addr} {sl_is_in : Array (Option Value)} {oc_is_in kV_is_in dc_is_in pm_is_in cd_is_in ct_is_in : Value}
    {f_counted_by_last_ : Addr} {od_counted_by_last_ an_counted_by_last_ : Option Addr} {sl_counted_by_last_ : Array (Option Value)} {oc_counted_by_last_ kV_counted_by_last_ dc_counted_by_last_ pm_counted_by_last_ cd_counted_by_last_ ct_counted_by_last_ : Value}
    {f_counted : Addr} {od_counted an_counted : Option Addr} {sl_counted : Array (Option Value)} {oc_counted kV_counted dc_counted pm_counted cd_counted ct_counted : Value}
    {f_may_follow_ : Addr} {od_may_follow_ an_may_follow_ : Option Addr} {sl_may_follow_ : Array (Option Value)} {oc_may_follow_ kV_may_follow_ dc_may_follow_ pm_may_follow_ cd_may_follow_ ct_may_follow_ : Value}
    {f_label_rows_ : Addr} {od_label_rows_ an_label_rows_ : Option Addr} {sl_label_rows_ : Array (Option Value)} {oc_label_rows_ kV_label_rows_ dc_label_rows_ pm_label_rows_ cd_label_rows_ ct_label_rows_ : Value}
    {f_listed : Addr} {od_listed an_listed : Option Addr} {sl_listed : Array (Option Value)} {oc_listed kV_listed dc_listed pm_listed cd_listed ct_listed : Value}
    {f_law_goes : Addr} {od_law_goes an_law_goes : Option Addr} {sl_law_goes : Array (Option Value)} {oc_law_goes kV_law_goes dc_law_goes pm_law_goes cd_law_goes ct_law_goes : Value}
    {f_may_stay_ : Addr} {od_may_stay_ an_may_stay_ : Option Addr} {sl_may_stay_ : Array (Option Value)} {oc_may_stay_ kV_may_stay_ dc_may_stay_ pm_may_stay_ cd_may_stay_ ct_may_stay_ : Value}
    {f_keys_with_ : Addr} {od_keys_with_ an_keys_with_ : Option Addr} {sl_keys_with_ : Array (Option Value)} {oc_keys_with_ kV_keys_with_ dc_keys_with_ pm_keys_with_ cd_keys_with_ ct_keys_with_ : Value}
    {f_side_counts_ : Addr} {od_side_counts_ an_side_counts_ : Option Addr} {sl_side_counts_ : Array (Option Value)} {oc_side_counts_ kV_side_counts_ dc_side_counts_ pm_side_counts_ cd_side_counts_ ct_side_counts_ : Value}
    {f_by_through : Addr} {od_by_through an_by_through : Option Addr} {sl_by_through : Array (Option Value)} {oc_by_through kV_by_through dc_by_through pm_by_through cd_by_through ct_by_through : Value}
    {f_law_choose : Addr} {od_law_choose an_law_choose : Option Addr} {sl_law_choose : Array (Option Value)} {oc_law_choose kV_law_choose dc_law_choose pm_law_choose cd_law_choose ct_law_choose : Value}
    {f_law_product : Addr} {od_law_product an_law_product : Option Addr} {sl_law_product : Array (Option Value)} {oc_law_product kV_law_product dc_law_product pm_law_product cd_law_product ct_law_product : Value}
    {f_law_side : Addr} {od_law_side an_law_side : Option Addr} {sl_law_side : Array (Option Value)} {oc_law_side kV_law_side dc_law_side pm_law_side cd_law_side ct_law_side : Value}
    {f_law_told : Addr} {od_law_told an_law_told : Option Addr} {sl_law_told : Array (Option Value)} {oc_law_told kV_law_told dc_law_told pm_law_told cd_law_told ct_law_told : Value}
    {f_law : Addr} {od_law an_law : Option Addr} {sl_law : Array (Option Value)} {oc_law kV_law dc_law pm_law cd_law ct_law : Value}
    {CB : Addr}
    {CD : Addr}
    {CT : Addr}
    {CF : Addr}
    {tm_MOST_ON_A_SIDE : Tok}
    {tm_MOST_POINTS : Tok}
    {tm_MOST_LISTED : Tok}
    {aF : Addr} {ddF : Option Addr} {nF : Nat} {slF : Array (Option Value)} {uf0 uf1 uf2 uf3 uf4 uf5 : Tok}
    {CE : Addr}
    (a_law_number : PySem.W.nsIn K mainGlobals "_law_number" = some (some (.ref f_law_number))) (l_law_number : K.lookup f_law_number = some ⟨oc_law_number, od_law_number, .func (PySem.W.fnOf "_law_number" "_law_number" (defArgs s_law_number) (defBody s_law_number) (defScope s_law_number) .none kV_law_number dc_law_number pm_law_number an_law_number cd_law_number ct_law_number), sl_law_number⟩) (c_law_number : PySem.W.codeIn K cd_law_number "_law_number" = true) (k_law_number : PySem.W.keepIn K (.ref f_law_number) = true)
    (a_law_next : PySem.W.nsIn K mainGlobals "_law_next" = some (some (.ref f_law_next))) (l_law_next : K.lookup f_law_next = some ⟨oc_law_next, od_law_next, .func (PySem.W.fnOf "_law_next" "_law_next" (defArgs s_law_next) (defBody s_law_next) (defScope s_law_next) .none kV_law_next dc_law_next pm_law_next an_law_next cd_law_next ct_law_next), sl_law_next⟩) (c_law_next : PySem.W.codeIn K cd_law_next "_law_next" = true) (k_law_next : PySem.W.keepIn K (.ref f_law_next) = true)
    (a_law_draws : PySem.W.nsIn K mainGlobals "_law_draws" = some (some (.ref f_law_draws))) (l_law_draws : K.lookup f_law_draws = some ⟨oc_law_draws, od_law_draws, .func (PySem.W.fnOf "_law_draws" "_law_draws" (defArgs s_law_draws) (defBody s_law_draws) (defScope s_law_draws) .none kV_law_draws dc_law_draws pm_law_draws an_law_draws cd_law_draws ct_law_draws), sl_law_draws⟩) (c_law_draws : PySem.W.codeIn K cd_law_draws "_law_draws" = true) (k_law_draws : PySem.W.keepIn K (.ref f_law_draws) = true)
    (a_law_family : PySem.W.nsIn K mainGlobals "_law_family" = some (some (.ref f_law_family))) (l_law_family : K.lookup f_law_family = some ⟨oc_law_family, od_law_family, .func (PySem.W.fnOf "_law_family" "_law_family" (defArgs s_law_family) (defBody s_law_family) (defScope s_law_family) .none kV_law_family dc_law_family pm_law_family an_law_family cd_law_family ct_law_family), sl_law_family⟩) (c_law_family : PySem.W.codeIn K cd_law_family "_law_family" = true) (k_law_family : PySem.W.keepIn K (.ref f_law_family) = true)
    (a_is_size_ : PySem.W.nsIn K mainGlobals "_is_size" = some (some (.ref f_is_size_))) (l_is_size_ : K.lookup f_is_size_ = some ⟨oc_is_size_, od_is_size_, .func (PySem.W.fnOf "_is_size" "_is_size" (defArgs s_is_size_) (defBody s_is_size_) (defScope s_is_size_) .none kV_is_size_ dc_is_size_ pm_is_size_ an_is_size_ cd_is_size_ ct_is_size_), sl_is_size_⟩) (c_is_size_ : PySem.W.codeIn K cd_is_size_ "_is_size" = true) (k_is_size_ : PySem.W.keepIn K (.ref f_is_size_) = true)
    (a_check_size_ : PySem.W.nsIn K mainGlobals "_check_size" = some (some (.ref f_check_size_))) (l_check_size_ : K.lookup f_check_size_ = some ⟨oc_check_size_, od_check_size_, .func (PySem.W.fnOf "_check_size" "_check_size" (defArgs s_check_size_) (defBody s_check_size_) (defScope s_check_size_) .none kV_check_size_ dc_check_size_ pm_check_size_ an_check_size_ cd_check_size_ ct_check_size_), sl_check_size_⟩) (c_check_size_ : PySem.W.codeIn K cd_check_size_ "_check_size" = true) (k_check_size_ : PySem.W.keepIn K (.ref f_check_size_) = true)
    (a_is_diagram : PySem.W.nsIn K mainGlobals "is_diagram" = some (some (.ref f_is_diagram))) (l_is_diagram : K.lookup f_is_diagram = some ⟨oc_is_diagram, od_is_diagram, .func (PySem.W.fnOf "is_diagram" "is_diagram" (defArgs s_is_diagram) (defBody s_is_diagram) (defScope s_is_diagram) .none kV_is_diagram dc_is_diagram pm_is_diagram an_is_diagram cd_is_diagram ct_is_diagram), sl_is_diagram⟩) (c_is_diagram : PySem.W.codeIn K cd_is_diagram "is_diagram" = true) (k_is_diagram : PySem.W.keepIn K (.ref f_is_diagram) = true)
    (a_check_diagram : PySem.W.nsIn K mainGlobals "check_diagram" = some (some (.ref f_check_diagram))) (l_check_diagram : K.lookup f_check_diagram = some ⟨oc_check_diagram, od_check_diagram, .func (PySem.W.fnOf "check_diagram" "check_diagram" (defArgs s_check_diagram) (defBody s_check_diagram) (defScope s_check_diagram) .none kV_check_diagram dc_check_diagram pm_check_diagram an_check_diagram cd_check_diagram ct_check_diagram), sl_check_diagram⟩) (c_check_diagram : PySem.W.codeIn K cd_check_diagram "check_diagram" = true) (k_check_diagram : PySem.W.keepIn K (.ref f_check_diagram) = true)
    (a_from_labels : PySem.W.nsIn K mainGlobals "from_labels" = some (some (.ref f_from_labels))) (l_from_labels : K.lookup f_from_labels = some ⟨oc_from_labels, od_from_labels, .func (PySem.W.fnOf "from_labels" "from_labels" (defArgs s_from_labels) (defBody s_from_labels) (defScope s_from_labels) .none kV_from_labels dc_from_labels pm_from_labels an_from_labels cd_from_labels ct_from_labels), sl_from_labels⟩) (c_from_labels : PySem.W.codeIn K cd_from_labels "from_labels" = true) (k_from_labels : PySem.W.keepIn K (.ref f_from_labels) = true)
    (a_check_family : PySem.W.nsIn K mainGlobals "check_family" = some (some (.ref f_check_family))) (l_check_family : K.lookup f_check_family = some ⟨oc_check_family, od_check_family, .func (PySem.W.fnOf "check_family" "check_family" (defArgs s_check_family) (defBody s_check_family) (defScope s_check_family) .none kV_check_family dc_check_family pm_check_family an_check_family cd_check_family ct_check_family), sl_check_family⟩) (c_check_family : PySem.W.codeIn K cd_check_family "check_family" = true) (k_check_family : PySem.W.keepIn K (.ref f_check_family) = true)
    (a_is_strand_ : PySem.W.nsIn K mainGlobals "_is_strand" = some (some (.ref f_is_strand_))) (l_is_strand_ : K.lookup f_is_strand_ = some ⟨oc_is_strand_, od_is_strand_, .func (PySem.W.fnOf "_is_strand" "_is_strand" (defArgs s_is_strand_) (defBody s_is_strand_) (defScope s_is_strand_) .none kV_is_strand_ dc_is_strand_ pm_is_strand_ an_is_strand_ cd_is_strand_ ct_is_strand_), sl_is_strand_⟩) (c_is_strand_ : PySem.W.codeIn K cd_is_strand_ "_is_strand" = true) (k_is_strand_ : PySem.W.keepIn K (.ref f_is_strand_) = true)
    (a_is_block_size_ : PySem.W.nsIn K mainGlobals "_is_block_size" = some (some (.ref f_is_block_size_))) (l_is_block_size_ : K.lookup f_is_block_size_ = some ⟨oc_is_block_size_, od_is_block_size_, .func (PySem.W.fnOf "_is_block_size" "_is_block_size" (defArgs s_is_block_size_) (defBody s_is_block_size_) (defScope s_is_block_size_) .none kV_is_block_size_ dc_is_block_size_ pm_is_block_size_ an_is_block_size_ cd_is_block_size_ ct_is_block_size_), sl_is_block_size_⟩) (c_is_block_size_ : PySem.W.codeIn K cd_is_block_size_ "_is_block_size" = true) (k_is_block_size_ : PySem.W.keepIn K (.ref f_is_block_size_) = true)
    (a_is_block_of_ : PySem.W.nsIn K mainGlobals "_is_block_of" = some (some (.ref f_is_block_of_))) (l_is_block_of_ : K.lookup f_is_block_of_ = some ⟨oc_is_block_of_, od_is_block_of_, .func (PySem.W.fnOf "_is_block_of" "_is_block_of" (defArgs s_is_block_of_) (defBody s_is_block_of_) (defScope s_is_block_of_) .none kV_is_block_of_ dc_is_block_of_ pm_is_block_of_ an_is_block_of_ cd_is_block_of_ ct_is_block_of_), sl_is_block_of_⟩) (c_is_block_of_ : PySem.W.codeIn K cd_is_block_of_ "_is_block_of" = true) (k_is_block_of_ : PySem.W.keepIn K (.ref f_is_block_of_) = true)
    (a_is_in : PySem.W.nsIn K mainGlobals "is_in" = some (some (.ref f_is_in))) (l_is_in : K.lookup f_is_in = some ⟨oc_is_in, od_is_in, .func (PySem.W.fnOf "is_in" "is_in" (defArgs s_is_in) (defBody s_is_in) (defScope s_is_in) .none kV_is_in dc_is_in pm_is_in an_is_in cd_is_in ct_is_in), sl_is_in⟩) (c_is_in : PySem.W.codeIn K cd_is_in "is_in" = true) (k_is_in : PySem.W.keepIn K (.ref f_is_in) = true)
    (a_counted_by_last_ : PySem.W.nsIn K mainGlobals "_counted_by_last" = some (some (.ref f_counted_by_last_))) (l_counted_by_last_ : K.lookup f_counted_by_last_ = some ⟨oc_counted_by_last_, od_counted_by_last_, .func (PySem.W.fnOf "_counted_by_last" "_counted_by_last" (defArgs s_counted_by_last_) (defBody s_counted_by_last_) (defScope s_counted_by_last_) .none kV_counted_by_last_ dc_counted_by_last_ pm_counted_by_last_ an_counted_by_last_ cd_counted_by_last_ ct_counted_by_last_), sl_counted_by_last_⟩) (c_counted_by_last_ : PySem.W.codeIn K cd_counted_by_last_ "_counted_by_last" = true) (k_counted_by_last_ : PySem.W.keepIn K (.ref f_counted_by_last_) = true)
    (a_counted : PySem.W.nsIn K mainGlobals "counted" = some (some (.ref f_counted))) (l_counted : K.lookup f_counted = some ⟨oc_counted, od_counted, .func (PySem.W.fnOf "counted" "counted" (defArgs s_counted) (defBody s_counted) (defScope s_counted) .none kV_counted dc_counted pm_counted an_counted cd_counted ct_counted), sl_counted⟩) (c_counted : PySem.W.codeIn K cd_counted "counted" = true) (k_counted : PySem.W.keepIn K (.ref f_counted) = true)
    (a_may_follow_ : PySem.W.nsIn K mainGlobals "_may_follow" = some (some (.ref f_may_follow_))) (l_may_follow_ : K.lookup f_may_follow_ = some ⟨oc_may_follow_, od_may_follow_, .func (PySem.W.fnOf "_may_follow" "_may_follow" (defArgs s_may_follow_) (defBody s_may_follow_) (defScope s_may_follow_) .none kV_may_follow_ dc_may_follow_ pm_may_follow_ an_may_follow_ cd_may_follow_ ct_may_follow_), sl_may_follow_⟩) (c_may_follow_ : PySem.W.codeIn K cd_may_follow_ "_may_follow" = true) (k_may_follow_ : PySem.W.keepIn K (.ref f_may_follow_) = true)
    (a_label_rows_ : PySem.W.nsIn K mainGlobals "_label_rows" = some (some (.ref f_label_rows_))) (l_label_rows_ : K.lookup f_label_rows_ = some ⟨oc_label_rows_, od_label_rows_, .func (PySem.W.fnOf "_label_rows" "_label_rows" (defArgs s_label_rows_) (defBody s_label_rows_) (defScope s_label_rows_) .none kV_label_rows_ dc_label_rows_ pm_label_rows_ an_label_rows_ cd_label_rows_ ct_label_rows_), sl_label_rows_⟩) (c_label_rows_ : PySem.W.codeIn K cd_label_rows_ "_label_rows" = true) (k_label_rows_ : PySem.W.keepIn K (.ref f_label_rows_) = true)
    (a_listed : PySem.W.nsIn K mainGlobals "listed" = some (some (.ref f_listed))) (l_listed : K.lookup f_listed = some ⟨oc_listed, od_listed, .func (PySem.W.fnOf "listed" "listed" (defArgs s_listed) (defBody s_listed) (defScope s_listed) .none kV_listed dc_listed pm_listed an_listed cd_listed ct_listed), sl_listed⟩) (c_listed : PySem.W.codeIn K cd_listed "listed" = true) (k_listed : PySem.W.keepIn K (.ref f_listed) = true)
    (a_law_goes : PySem.W.nsIn K mainGlobals "_law_goes" = some (some (.ref f_law_goes))) (l_law_goes : K.lookup f_law_goes = some ⟨oc_law_goes, od_law_goes, .func (PySem.W.fnOf "_law_goes" "_law_goes" (defArgs s_law_goes) (defBody s_law_goes) (defScope s_law_goes) .none kV_law_goes dc_law_goes pm_law_goes an_law_goes cd_law_goes ct_law_goes), sl_law_goes⟩) (c_law_goes : PySem.W.codeIn K cd_law_goes "_law_goes" = true) (k_law_goes : PySem.W.keepIn K (.ref f_law_goes) = true)
    (a_may_stay_ : PySem.W.nsIn K mainGlobals "_may_stay" = some (some (.ref f_may_stay_))) (l_may_stay_ : K.lookup f_may_stay_ = some ⟨oc_may_stay_, od_may_stay_, .func (PySem.W.fnOf "_may_stay" "_may_stay" (defArgs s_may_stay_) (defBody s_may_stay_) (defScope s_may_stay_) .none kV_may_stay_ dc_may_stay_ pm_may_stay_ an_may_stay_ cd_may_stay_ ct_may_stay_), sl_may_stay_⟩) (c_may_stay_ : PySem.W.codeIn K cd_may_stay_ "_may_stay" = true) (k_may_stay_ : PySem.W.keepIn K (.ref f_may_stay_) = true)
    (a_keys_with_ : PySem.W.nsIn K mainGlobals "_keys_with" = some (some (.ref f_keys_with_))) (l_keys_with_ : K.lookup f_keys_with_ = some ⟨oc_keys_with_, od_keys_with_, .func (PySem.W.fnOf "_keys_with" "_keys_with" (defArgs s_keys_with_) (defBody s_keys_with_) (defScope s_keys_with_) .none kV_keys_with_ dc_keys_with_ pm_keys_with_ an_keys_with_ cd_keys_with_ ct_keys_with_), sl_keys_with_⟩) (c_keys_with_ : PySem.W.codeIn K cd_keys_with_ "_keys_with" = true) (k_keys_with_ : PySem.W.keepIn K (.ref f_keys_with_) = true)
    (a_side_counts_ : PySem.W.nsIn K mainGlobals "_side_counts" = some (some (.ref f_side_counts_))) (l_side_counts_ : K.lookup f_side_counts_ = some ⟨oc_side_counts_, od_side_counts_, .func (PySem.W.fnOf "_side_counts" "_side_counts" (defArgs s_side_counts_) (defBody s_side_counts_) (defScope s_side_counts_) .none kV_side_counts_ dc_side_counts_ pm_side_counts_ an_side_counts_ cd_side_counts_ ct_side_counts_), sl_side_counts_⟩) (c_side_counts_ : PySem.W.codeIn K cd_side_counts_ "_side_counts" = true) (k_side_counts_ : PySem.W.keepIn K (.ref f_side_counts_) = true)
    (a_by_through : PySem.W.nsIn K mainGlobals "by_through" = some (some (.ref f_by_through))) (l_by_through : K.lookup f_by_through = some ⟨oc_by_through, od_by_through, .func (PySem.W.fnOf "by_through" "by_through" (defArgs s_by_through) (defBody s_by_through) (defScope s_by_through) .none kV_by_through dc_by_through pm_by_through an_by_through cd_by_through ct_by_through), sl_by_through⟩) (c_by_through : PySem.W.codeIn K cd_by_through "by_through" = true) (k_by_through : PySem.W.keepIn K (.ref f_by_through) = true)
    (a_law_choose : PySem.W.nsIn K mainGlobals "_law_choose" = some (some (.ref f_law_choose))) (l_law_choose : K.lookup f_law_choose = some ⟨oc_law_choose, od_law_choose, .func (PySem.W.fnOf "_law_choose" "_law_choose" (defArgs s_law_choose) (defBody s_law_choose) (defScope s_law_choose) .none kV_law_choose dc_law_choose pm_law_choose an_law_choose cd_law_choose ct_law_choose), sl_law_choose⟩) (c_law_choose : PySem.W.codeIn K cd_law_choose "_law_choose" = true) (k_law_choose : PySem.W.keepIn K (.ref f_law_choose) = true)
    (a_law_product : PySem.W.nsIn K mainGlobals "_law_product" = some (some (.ref f_law_product))) (l_law_product : K.lookup f_law_product = some ⟨oc_law_product, od_law_product, .func (PySem.W.fnOf "_law_product" "_law_product" (defArgs s_law_product) (defBody s_law_product) (defScope s_law_product) .none kV_law_product dc_law_product pm_law_product an_law_product cd_law_product ct_law_product), sl_law_product⟩) (c_law_product : PySem.W.codeIn K cd_law_product "_law_product" = true) (k_law_product : PySem.W.keepIn K (.ref f_law_product) = true)
    (a_law_side : PySem.W.nsIn K mainGlobals "_law_side" = some (some (.ref f_law_side))) (l_law_side : K.lookup f_law_side = some ⟨oc_law_side, od_law_side, .func (PySem.W.fnOf "_law_side" "_law_side" (defArgs s_law_side) (defBody s_law_side) (defScope s_law_side) .none kV_law_side dc_law_side pm_law_side an_law_side cd_law_side ct_law_side), sl_law_side⟩) (c_law_side : PySem.W.codeIn K cd_law_side "_law_side" = true) (k_law_side : PySem.W.keepIn K (.ref f_law_side) = true)
    (a_law_told : PySem.W.nsIn K mainGlobals "_law_told" = some (some (.ref f_law_told))) (l_law_told : K.lookup f_law_told = some ⟨oc_law_told, od_law_told, .func (PySem.W.fnOf "_law_told" "_law_told" (defArgs s_law_told) (defBody s_law_told) (defScope s_law_told) .none kV_law_told dc_law_told pm_law_told an_law_told cd_law_told ct_law_told), sl_law_told⟩) (c_law_told : PySem.W.codeIn K cd_law_told "_law_told" = true) (k_law_told : PySem.W.keepIn K (.ref f_law_told) = true)
    (a_law : PySem.W.nsIn K mainGlobals "law" = some (some (.ref f_law))) (l_law : K.lookup f_law = some ⟨oc_law, od_law, .func (PySem.W.fnOf "law" "law" (defArgs s_law) (defBody s_law) (defScope s_law) .none kV_law dc_law pm_law an_law cd_law ct_law), sl_law⟩) (c_law : PySem.W.codeIn K cd_law "law" = true) (k_law : PySem.W.keepIn K (.ref f_law) = true)
    (zn_int : PySem.W.nsIn K mainGlobals "int" = some none)
    (zn_range : PySem.W.nsIn K mainGlobals "range" = some none)
    (zn_len : PySem.W.nsIn K mainGlobals "len" = some none)
    (zn_list : PySem.W.nsIn K mainGlobals "list" = some none)
    (zn_tuple : PySem.W.nsIn K mainGlobals "tuple" = some none)
    (zn_max : PySem.W.nsIn K mainGlobals "max" = some none)
    (zn_min : PySem.W.nsIn K mainGlobals "min" = some none)
    (zn_all : PySem.W.nsIn K mainGlobals "all" = some none)
    (zn_any : PySem.W.nsIn K mainGlobals "any" = some none)
    (zn_sorted : PySem.W.nsIn K mainGlobals "sorted" = some none)
    (zn_repr : PySem.W.nsIn K mainGlobals "repr" = some none)
    (zn_isinstance : PySem.W.nsIn K mainGlobals "isinstance" = some none)
    (zn_enumerate : PySem.W.nsIn K mainGlobals "enumerate" = some none)
    (zn_str : PySem.W.nsIn K mainGlobals "str" = some none)
    (zn_set : PySem.W.nsIn K mainGlobals "set" = some none)
    (zn_divmod : PySem.W.nsIn K mainGlobals "divmod" = some none)
    (zn_sum : PySem.W.nsIn K mainGlobals "sum" = some none)
    (n_BadNumber : PySem.W.nsIn K mainGlobals "BadNumber" = some (some (.ref CB)))
    (x_BadNumber : PySem.W.excIn K CB [.type "ValueError", .type "Exception", .type "BaseException", .type "object"] "ValueError.__new__" = true)
    (kc_BadNumber : PySem.W.keepIn K (.ref CB) = true)
    (bc_BadNumber : PySem.W.subIn K (.ref CB) (.type "BaseException") = some true)
    (tc_BadNumber : PySem.W.typeIn K (.ref CB) = some (.type "type"))
    (n_NotDiagram : PySem.W.nsIn K mainGlobals "NotDiagram" = some (some (.ref CD)))
    (x_NotDiagram : PySem.W.excIn K CD [.type "ValueError", .type "Exception", .type "BaseException", .type "object"] "ValueError.__new__" = true)
    (kc_NotDiagram : PySem.W.keepIn K (.ref CD) = true)
    (bc_NotDiagram : PySem.W.subIn K (.ref CD) (.type "BaseException") = some true)
    (tc_NotDiagram : PySem.W.typeIn K (.ref CD) = some (.type "type"))
    (n_TooLarge : PySem.W.nsIn K mainGlobals "TooLarge" = some (some (.ref CT)))
    (x_TooLarge : PySem.W.excIn K CT [.type "ValueError", .type "Exception", .type "BaseException", .type "object"] "ValueError.__new__" = true)
    (kc_TooLarge : PySem.W.keepIn K (.ref CT) = true)
    (bc_TooLarge : PySem.W.subIn K (.ref CT) (.type "BaseException") = some true)
    (tc_TooLarge : PySem.W.typeIn K (.ref CT) = some (.type "type"))
    (n_NotFamily : PySem.W.nsIn K mainGlobals "NotFamily" = some (some (.ref CF)))
    (x_NotFamily : PySem.W.excIn K CF [.type "ValueError", .type "Exception", .type "BaseException", .type "object"] "ValueError.__new__" = true)
    (kc_NotFamily : PySem.W.keepIn K (.ref CF) = true)
    (bc_NotFamily : PySem.W.subIn K (.ref CF) (.type "BaseException") = some true)
    (tc_NotFamily : PySem.W.typeIn K (.ref CF) = some (.type "type"))
    (n_MOST_ON_A_SIDE : PySem.W.nsIn K mainGlobals "MOST_ON_A_SIDE" = some (some (.int 8 tm_MOST_ON_A_SIDE)))
    (n_MOST_POINTS : PySem.W.nsIn K mainGlobals "MOST_POINTS" = some (some (.int 12 tm_MOST_POINTS)))
    (n_MOST_LISTED : PySem.W.nsIn K mainGlobals "MOST_LISTED" = some (some (.int 250 tm_MOST_LISTED)))
    (n_comb : PySem.W.nsIn K mainGlobals "comb" = some (some (.builtin "math.comb")))
    (n_factorial : PySem.W.nsIn K mainGlobals "factorial" = some (some (.builtin "math.factorial")))
    (n_FAMILIES : PySem.W.nsIn K mainGlobals "FAMILIES" = some (some (.ref aF)))
    (l_FAMILIES : K.lookup aF = some ⟨.type "tuple", ddF, .seq #[.str "threads" uf0, .str "loose" uf1, .str "pairs" uf2, .str "lonepairs" uf3, .str "even" uf4, .str "parts" uf5] nF, slF⟩)
    (n_WorthError : PySem.W.nsIn K mainGlobals "WorthError" = some (some (.ref CE)))
    (ebc : PySem.W.subIn K (.ref CE) (.type "BaseException") = some true)
    (ehd : PySem.W.hasDictIn K CE = true)
    (ety : PySem.W.typeIn K (.ref CE) = some (.type "type"))
    (hn_cls : PySem.W.specialIn K (.builtin "object.__class__") "__get__" = some (some (.builtin "getset_descriptor.__get__")))
    (ht_cls : PySem.W.takesIn K (.builtin "object.__class__") = some true)
    (hg_NotFamily : PySem.W.findIn K (.ref CF) "__getattribute__" = some (some (.builtin "BaseException.__getattribute__")))
    (hk_NotFamily : PySem.W.findIn K (.ref CF) "__getattr__" = some none)
    (hd_NotFamily : PySem.W.hasDictIn K CF = true)
    (ha_NotFamily : PySem.W.findIn K (.ref CF) "__class__" = some (some (.builtin "object.__class__")))
    (hm_NotFamily : PySem.W.mroIn K CF (.type "object") = some true)
    (sE_f : PySem.W.subIn K (.ref CF) (.ref CE) = some true)
    (hg_BadNumber : PySem.W.findIn K (.ref CB) "__getattribute__" = some (some (.builtin "BaseException.__getattribute__")))
    (hk_BadNumber : PySem.W.findIn K (.ref CB) "__getattr__" = some none)
    (hd_BadNumber : PySem.W.hasDictIn K CB = true)
    (ha_BadNumber : PySem.W.findIn K (.ref CB) "__class__" = some (some (.builtin "object.__class__")))
    (hm_BadNumber : PySem.W.mroIn K CB (.type "object") = some true)
    (sE_b : PySem.W.subIn K (.ref CB) (.ref CE) = some true)
    (t_ff : PySem.W.kitOne K (.ref CF) (.ref CF) = some true)
    (t_fb : PySem.W.kitOne K (.ref CF) (.ref CB) = some false)
    (t_bf : PySem.W.kitOne K (.ref CB) (.ref CF) = some false)
    (t_bb : PySem.W.kitOne K (.ref CB) (.ref CB) = some true)
    : ∃ fd : FuncData, (∀ (s : Shared) (v : Value), BindsTo s fd ⟨[v], []⟩ [("script", v)]) ∧ ∀ base : Heap, K.In base → base.Ns mainGlobals mg → FnG P w K mg base 10 fa fd ["script"] (spLaw K) := by
  have e := hfa.symm.trans (PySem.W.mg_of X G a_law)
  cases e
  have F_law_number := fun_mk (st := s_law_number) l_law_number c_law_number k_law_number
  have g_law_number := PySem.W.mg_of X G a_law_number
  have b_law_number := F_law_number.binds (ps := ["cell"]) fun _ _ _ _ _ _ us hl => match us, hl with | [_], _ => rfl
  have F_law_next := fun_mk (st := s_law_next) l_law_next c_law_next k_law_next
  have g_law_next := PySem.W.mg_of X G a_law_next
  have b_law_next := F_law_next.binds (ps := ["draws"]) fun _ _ _ _ _ _ us hl => match us, hl with | [_], _ => rfl
  have F_law_draws := fun_mk (st := s_law_draws) l_law_draws c_law_draws k_law_draws
  have g_law_draws := PySem.W.mg_of X G a_law_draws
  have b_law_draws := F_law_draws.binds (ps := ["script"]) fun _ _ _ _ _ _ us hl => match us, hl with | [_], _ => rfl
  have F_law_family := fun_mk (st := s_law_family) l_law_family c_law_family k_law_family
  have g_law_family := PySem.W.mg_of X G a_law_family
  have b_law_family := F_law_family.binds (ps := ["draws"]) fun _ _ _ _ _ _ us hl => match us, hl with | [_], _ => rfl
  have F_is_size_ := fun_mk (st := s_is_size_) l_is_size_ c_is_size_ k_is_size_
  have g_is_size_ := PySem.W.mg_of X G a_is_size_
  have b_is_size_ := F_is_size_.binds (ps := ["n", "m"]) fun _ _ _ _ _ _ us hl => match us, hl with | [_, _], _ => rfl
  have F_check_size_ := fun_mk (st := s_check_size_) l_check_size_ c_check_size_ k_check_size_
  have g_check_size_ := PySem.W.mg_of X G a_check_size_
  have b_check_size_ := F_check_size_.binds (ps := ["n", "m"]) fun _ _ _ _ _ _ us hl => match us, hl with | [_, _], _ => rfl
  have F_is_diagram := fun_mk (st := s_is_diagram) l_is_diagram c_is_diagram k_is_diagram
  have g_is_diagram := PySem.W.mg_of X G a_is_diagram
  have b_is_diagram := F_is_diagram.binds (ps := ["diagram"]) fun _ _ _ _ _ _ us hl => match us, hl with | [_], _ => rfl
  have F_check_diagram := fun_mk (st := s_check_diagram) l_check_diagram c_check_diagram k_check_diagram
  have g_check_diagram := PySem.W.mg_of X G a_check_diagram
  have b_check_diagram := F_check_diagram.binds (ps := ["diagram"]) fun _ _ _ _ _ _ us hl => match us, hl with | [_], _ => rfl
  have F_from_labels := fun_mk (st := s_from_labels) l_from_labels c_from_labels k_from_labels
  have g_from_labels := PySem.W.mg_of X G a_from_labels
  have b_from_labels := F_from_labels.binds (ps := ["n", "m", "marks"]) fun _ _ _ _ _ _ us hl => match us, hl with | [_, _, _], _ => rfl
  have F_check_family := fun_mk (st := s_check_family) l_check_family c_check_family k_check_family
  have g_check_family := PySem.W.mg_of X G a_check_family
  have b_check_family := F_check_family.binds (ps := ["family"]) fun _ _ _ _ _ _ us hl => match us, hl with | [_], _ => rfl
  have F_is_strand_ := fun_mk (st := s_is_strand_) l_is_strand_ c_is_strand_ k_is_strand_
  have g_is_strand_ := PySem.W.mg_of X G a_is_strand_
  have b_is_strand_ := F_is_strand_.binds (ps := ["n", "block"]) fun _ _ _ _ _ _ us hl => match us, hl with | [_, _], _ => rfl
  have F_is_block_size_ := fun_mk (st := s_is_block_size_) l_is_block_size_ c_is_block_size_ k_is_block_size_
  have g_is_block_size_ := PySem.W.mg_of X G a_is_block_size_
  have b_is_block_size_ := F_is_block_size_.binds (ps := ["family", "size"]) fun _ _ _ _ _ _ us hl => match us, hl with | [_, _], _ => rfl
  have F_is_block_of_ := fun_mk (st := s_is_block_of_) l_is_block_of_ c_is_block_of_ k_is_block_of_
  have g_is_block_of_ := PySem.W.mg_of X G a_is_block_of_
  have b_is_block_of_ := F_is_block_of_.binds (ps := ["family", "n", "block"]) fun _ _ _ _ _ _ us hl => match us, hl with | [_, _, _], _ => rfl
  have F_is_in := fun_mk (st := s_is_in) l_is_in c_is_in k_is_in
  have g_is_in := PySem.W.mg_of X G a_is_in
  have b_is_in := F_is_in.binds (ps := ["family", "diagram"]) fun _ _ _ _ _ _ us hl => match us, hl with | [_, _], _ => rfl
  have F_counted_by_last_ := fun_mk (st := s_counted_by_last_) l_counted_by_last_ c_counted_by_last_ k_counted_by_last_
  have g_counted_by_last_ := PySem.W.mg_of X G a_counted_by_last_
  have b_counted_by_last_ := F_counted_by_last_.binds (ps := ["family", "size"]) fun _ _ _ _ _ _ us hl => match us, hl with | [_, _], _ => rfl
  have F_counted := fun_mk (st := s_counted) l_counted c_counted k_counted
  have g_counted := PySem.W.mg_of X G a_counted
  have b_counted := F_counted.binds (ps := ["family", "n", "m"]) fun _ _ _ _ _ _ us hl => match us, hl with | [_, _, _], _ => rfl
  have F_may_follow_ := fun_mk (st := s_may_follow_) l_may_follow_ c_may_follow_ k_may_follow_
  have g_may_follow_ := PySem.W.mg_of X G a_may_follow_
  have b_may_follow_ := F_may_follow_.binds (ps := ["family", "n", "row", "mark"]) fun _ _ _ _ _ _ us hl => match us, hl with | [_, _, _, _], _ => rfl
  have F_label_rows_ := fun_mk (st := s_label_rows_) l_label_rows_ c_label_rows_ k_label_rows_
  have g_label_rows_ := PySem.W.mg_of X G a_label_rows_
  have b_label_rows_ := F_label_rows_.binds (ps := ["family", "n", "m"]) fun _ _ _ _ _ _ us hl => match us, hl with | [_, _, _], _ => rfl
  have F_listed := fun_mk (st := s_listed) l_listed c_listed k_listed
  have g_listed := PySem.W.mg_of X G a_listed
  have b_listed := F_listed.binds (ps := ["family", "n", "m"]) fun _ _ _ _ _ _ us hl => match us, hl with | [_, _, _], _ => rfl
  have F_law_goes := fun_mk (st := s_law_goes) l_law_goes c_law_goes k_law_goes
  have g_law_goes := PySem.W.mg_of X G a_law_goes
  have b_law_goes := F_law_goes.binds (ps := ["diagram"]) fun _ _ _ _ _ _ us hl => match us, hl with | [_], _ => rfl
  have F_may_stay_ := fun_mk (st := s_may_stay_) l_may_stay_ c_may_stay_ k_may_stay_
  have g_may_stay_ := PySem.W.mg_of X G a_may_stay_
  have b_may_stay_ := F_may_stay_.binds (ps := ["family", "j"]) fun _ _ _ _ _ _ us hl => match us, hl with | [_, _], _ => rfl
  have F_keys_with_ := fun_mk (st := s_keys_with_) l_keys_with_ c_keys_with_ k_keys_with_
  have g_keys_with_ := PySem.W.mg_of X G a_keys_with_
  have b_keys_with_ := F_keys_with_.binds (ps := ["family", "j", "evens", "odds"]) fun _ _ _ _ _ _ us hl => match us, hl with | [_, _, _, _], _ => rfl
  have F_side_counts_ := fun_mk (st := s_side_counts_) l_side_counts_ c_side_counts_ k_side_counts_
  have g_side_counts_ := PySem.W.mg_of X G a_side_counts_
  have b_side_counts_ := F_side_counts_.binds (ps := ["family", "size"]) fun _ _ _ _ _ _ us hl => match us, hl with | [_, _], _ => rfl
  have F_by_through := fun_mk (st := s_by_through) l_by_through c_by_through k_by_through
  have g_by_through := PySem.W.mg_of X G a_by_through
  have b_by_through := F_by_through.binds (ps := ["family", "n", "m"]) fun _ _ _ _ _ _ us hl => match us, hl with | [_, _, _], _ => rfl
  have F_law_choose := fun_mk (st := s_law_choose) l_law_choose c_law_choose k_law_choose
  have g_law_choose := PySem.W.mg_of X G a_law_choose
  have b_law_choose := F_law_choose.binds (ps := ["n", "k"]) fun _ _ _ _ _ _ us hl => match us, hl with | [_, _], _ => rfl
  have F_law_product := fun_mk (st := s_law_product) l_law_product c_law_product k_law_product
  have g_law_product := PySem.W.mg_of X G a_law_product
  have b_law_product := F_law_product.binds (ps := ["low", "high", "step"]) fun _ _ _ _ _ _ us hl => match us, hl with | [_, _, _], _ => rfl
  have F_law_side := fun_mk (st := s_law_side) l_law_side c_law_side k_law_side
  have g_law_side := PySem.W.mg_of X G a_law_side
  have b_law_side := F_law_side.binds (ps := ["family", "n", "t"]) fun _ _ _ _ _ _ us hl => match us, hl with | [_, _, _], _ => rfl
  have F_law_told := fun_mk (st := s_law_told) l_law_told c_law_told k_law_told
  have g_law_told := PySem.W.mg_of X G a_law_told
  have b_law_told := F_law_told.binds (ps := ["family", "n", "m"]) fun _ _ _ _ _ _ us hl => match us, hl with | [_, _, _], _ => rfl
  have F_law := fun_mk (st := s_law) l_law c_law k_law
  have g_law := PySem.W.mg_of X G a_law
  have b_law := F_law.binds (ps := ["script"]) fun _ _ _ _ _ _ us hl => match us, hl with | [_], _ => rfl
  have z_int := PySem.W.mg_none_of X G zn_int
  have z_range := PySem.W.mg_none_of X G zn_range
  have z_len := PySem.W.mg_none_of X G zn_len
  have z_list := PySem.W.mg_none_of X G zn_list
  have z_tuple := PySem.W.mg_none_of X G zn_tuple
  have z_max := PySem.W.mg_none_of X G zn_max
  have z_min := PySem.W.mg_none_of X G zn_min
  have z_all := PySem.W.mg_none_of X G zn_all
  have z_any := PySem.W.mg_none_of X G zn_any
  have z_sorted := PySem.W.mg_none_of X G zn_sorted
  have z_repr := PySem.W.mg_none_of X G zn_repr
  have z_isinstance := PySem.W.mg_none_of X G zn_isinstance
  have z_enumerate := PySem.W.mg_none_of X G zn_enumerate
  have z_str := PySem.W.mg_none_of X G zn_str
  have z_set := PySem.W.mg_none_of X G zn_set
  have z_divmod := PySem.W.mg_none_of X G zn_divmod
  have z_sum := PySem.W.mg_none_of X G zn_sum
  have E_BadNumber : ErrC K mg "BadNumber" CB := ⟨PySem.W.mg_of X G n_BadNumber, x_BadNumber, kc_BadNumber, bc_BadNumber, tc_BadNumber⟩
  have E_NotDiagram : ErrC K mg "NotDiagram" CD := ⟨PySem.W.mg_of X G n_NotDiagram, x_NotDiagram, kc_NotDiagram, bc_NotDiagram, tc_NotDiagram⟩
  have E_TooLarge : ErrC K mg "TooLarge" CT := ⟨PySem.W.mg_of X G n_TooLarge, x_TooLarge, kc_TooLarge, bc_TooLarge, tc_TooLarge⟩
  have E_NotFamily : ErrC K mg "NotFamily" CF := ⟨PySem.W.mg_of X G n_NotFamily, x_NotFamily, kc_NotFamily, bc_NotFamily, tc_NotFamily⟩
  have m_MOST_ON_A_SIDE := PySem.W.mg_of X G n_MOST_ON_A_SIDE
  have m_MOST_POINTS := PySem.W.mg_of X G n_MOST_POINTS
  have m_MOST_LISTED := PySem.W.mg_of X G n_MOST_LISTED
  have m_comb := PySem.W.mg_of X G n_comb
  have m_factorial := PySem.W.mg_of X G n_factorial
  have m_FAMILIES := PySem.W.mg_of X G n_FAMILIES
  have tF : ∀ H, SqT K H aF (fams.map V.str) := fun H => .inr ⟨_, _, _, l_FAMILIES, rfl, rfl, (by show 6 ≤ sizeLine; decide), .cons ⟨_, rfl⟩ (.cons ⟨_, rfl⟩ (.cons ⟨_, rfl⟩ (.cons ⟨_, rfl⟩ (.cons ⟨_, rfl⟩ (.cons ⟨_, rfl⟩ (.nil))))))⟩
  have I_NotFamily : ExcC K CF := ⟨hg_NotFamily, hk_NotFamily, bc_NotFamily, hd_NotFamily, ha_NotFamily, hn_cls, ht_cls, hm_NotFamily⟩
  have I_BadNumber : ExcC K CB := ⟨hg_BadNumber, hk_BadNumber, bc_BadNumber, hd_BadNumber, ha_BadNumber, hn_cls, ht_cls, hm_BadNumber⟩
  have T_told : ErrT K mg CE CF CB := ⟨PySem.W.mg_of X G n_WorthError, ebc, ehd, ety, PySem.W.mg_of X G n_NotFamily, I_NotFamily, sE_f, PySem.W.mg_of X G n_BadNumber, I_BadNumber, sE_b, t_ff, t_fb, t_bf, t_bb⟩
  refine ⟨PySem.W.fnOf "law" "law" (defArgs s_law) (defBody s_law) (defScope s_law) .none kV_law dc_law pm_law an_law cd_law ct_law, fun s v => .of_eq rfl, fun base _ _ => ?_⟩
  have G_law_number := ok_plain (P := P) (w := w) (mg := mg) (base := base) (F := F_law_number)
  have G_law_next := ok_next (P := P) (w := w) (mg := mg) (base := base) (F := F_law_next)
  have G_law_draws := ok_draws (P := P) (w := w) (mg := mg) (base := base) (F := F_law_draws) (z_range := z_range) (z_int := z_int) (G_law_number := G_law_number) (g_law_number := g_law_number) (k_law_number := k_law_number) (b_law_number := b_law_number)
  have G_law_family := ok_law_family (P := P) (w := w) (mg := mg) (base := base) (F := F_law_family) (z_int := z_int) (G_law_next := G_law_next) (g_law_next := g_law_next) (k_law_next := k_law_next) (b_law_next := b_law_next)
  have G_is_size_ := ok_is_size_ (P := P) (w := w) (mg := mg) (base := base) (F := F_is_size_) (m_MOST_ON_A_SIDE := m_MOST_ON_A_SIDE) (m_MOST_POINTS := m_MOST_POINTS)
  have G_check_size_ := ok_check_size_ (P := P) (w := w) (mg := mg) (base := base) (F := F_check_size_) (T := E_BadNumber) (G_is_size_ := G_is_size_) (g_is_size_ := g_is_size_) (k_is_size_ := k_is_size_) (b_is_size_ := b_is_size_)
  have G_is_diagram := ok_is_diagram (P := P) (w := w) (mg := mg) (base := base) (F := F_is_diagram) (z_len := z_len) (z_list := z_list) (z_range := z_range) (z_sorted := z_sorted) (z_all := z_all) (G_is_size_ := G_is_size_) (g_is_size_ := g_is_size_) (k_is_size_ := k_is_size_) (b_is_size_ := b_is_size_)
  have G_check_diagram := ok_check_diagram (P := P) (w := w) (mg := mg) (base := base) (F := F_check_diagram) (T := E_NotDiagram) (G_is_diagram := G_is_diagram) (g_is_diagram := g_is_diagram) (k_is_diagram := k_is_diagram) (b_is_diagram := b_is_diagram)
  have G_from_labels := ok_from_labels (P := P) (w := w) (mg := mg) (base := base) (F := F_from_labels) (T := E_BadNumber) (z_len := z_len) (z_enumerate := z_enumerate) (z_tuple := z_tuple) (G_check_size_ := G_check_size_) (g_check_size_ := g_check_size_) (k_check_size_ := k_check_size_) (b_check_size_ := b_check_size_)
  have G_check_family := ok_check_family (P := P) (w := w) (mg := mg) (base := base) (F := F_check_family) (T := E_NotFamily) (m_FAMILIES := m_FAMILIES) (tF := tF)
  have G_is_strand_ := ok_is_strand_ (P := P) (w := w) (mg := mg) (base := base) (F := F_is_strand_) (z_len := z_len)
  have G_is_block_size_ := ok_is_block_size_ (P := P) (w := w) (mg := mg) (base := base) (F := F_is_block_size_)
  have G_is_block_of_ := ok_is_block_of_ (P := P) (w := w) (mg := mg) (base := base) (F := F_is_block_of_) (z_len := z_len) (G_is_strand_ := G_is_strand_) (g_is_strand_ := g_is_strand_) (k_is_strand_ := k_is_strand_) (b_is_strand_ := b_is_strand_) (G_is_block_size_ := G_is_block_size_) (g_is_block_size_ := g_is_block_size_) (k_is_block_size_ := k_is_block_size_) (b_is_block_size_ := b_is_block_size_)
  have G_is_in := ok_is_in (P := P) (w := w) (mg := mg) (base := base) (F := F_is_in) (z_all := z_all) (G_check_family := G_check_family) (g_check_family := g_check_family) (k_check_family := k_check_family) (b_check_family := b_check_family) (G_check_diagram := G_check_diagram) (g_check_diagram := g_check_diagram) (k_check_diagram := k_check_diagram) (b_check_diagram := b_check_diagram) (G_is_block_of_ := G_is_block_of_) (g_is_block_of_ := g_is_block_of_) (k_is_block_of_ := k_is_block_of_) (b_is_block_of_ := b_is_block_of_)
  have G_counted_by_last_ := ok_counted_by_last_ (P := P) (w := w) (mg := mg) (base := base) (F := F_counted_by_last_) (z_range := z_range) (z_sum := z_sum) (m_comb := m_comb) (G_is_block_size_ := G_is_block_size_) (g_is_block_size_ := g_is_block_size_) (k_is_block_size_ := k_is_block_size_) (b_is_block_size_ := b_is_block_size_)
  have G_counted := ok_counted (P := P) (w := w) (mg := mg) (base := base) (F := F_counted) (z_range := z_range) (z_sum := z_sum) (z_min := z_min) (m_comb := m_comb) (m_factorial := m_factorial) (G_check_family := G_check_family) (g_check_family := g_check_family) (k_check_family := k_check_family) (b_check_family := b_check_family) (G_check_size_ := G_check_size_) (g_check_size_ := g_check_size_) (k_check_size_ := k_check_size_) (b_check_size_ := b_check_size_) (G_counted_by_last_ := G_counted_by_last_) (g_counted_by_last_ := g_counted_by_last_) (k_counted_by_last_ := k_counted_by_last_) (b_counted_by_last_ := b_counted_by_last_)
  have G_may_follow_ := ok_may_follow_ (P := P) (w := w) (mg := mg) (base := base) (F := F_may_follow_) (z_len := z_len)
  have G_label_rows_ := ok_label_rows_ (P := P) (w := w) (mg := mg) (base := base) (F := F_label_rows_) (z_range := z_range) (z_max := z_max) (G_may_follow_ := G_may_follow_) (g_may_follow_ := g_may_follow_) (k_may_follow_ := k_may_follow_) (b_may_follow_ := b_may_follow_)
  have G_listed := ok_listed (P := P) (w := w) (mg := mg) (base := base) (F := F_listed) (T := E_TooLarge) (m_MOST_LISTED := m_MOST_LISTED) (G_counted := G_counted) (g_counted := g_counted) (k_counted := k_counted) (b_counted := b_counted) (G_label_rows_ := G_label_rows_) (g_label_rows_ := g_label_rows_) (k_label_rows_ := k_label_rows_) (b_label_rows_ := b_label_rows_) (G_from_labels := G_from_labels) (g_from_labels := g_from_labels) (k_from_labels := k_from_labels) (b_from_labels := b_from_labels) (G_is_in := G_is_in) (g_is_in := g_is_in) (k_is_in := k_is_in) (b_is_in := b_is_in)
  have G_law_goes := ok_law_goes (P := P) (w := w) (mg := mg) (base := base) (F := F_law_goes) (z_min := z_min) (z_max := z_max)
  have G_may_stay_ := ok_may_stay_ (P := P) (w := w) (mg := mg) (base := base) (F := F_may_stay_) (z_tuple := z_tuple) (z_range := z_range) (G_is_in := G_is_in) (g_is_in := g_is_in) (k_is_in := k_is_in) (b_is_in := b_is_in)
  have G_keys_with_ := ok_keys_with_ (P := P) (w := w) (mg := mg) (base := base) (F := F_keys_with_) (G_may_stay_ := G_may_stay_) (g_may_stay_ := g_may_stay_) (k_may_stay_ := k_may_stay_) (b_may_stay_ := b_may_stay_)
  have G_side_counts_ := ok_side_counts_ (P := P) (w := w) (mg := mg) (base := base) (F := F_side_counts_) (z_range := z_range) (m_comb := m_comb) (G_keys_with_ := G_keys_with_) (g_keys_with_ := g_keys_with_) (k_keys_with_ := k_keys_with_) (b_keys_with_ := b_keys_with_)
  have G_by_through := ok_by_through (P := P) (w := w) (mg := mg) (base := base) (F := F_by_through) (z_range := z_range) (z_min := z_min) (m_factorial := m_factorial) (G_counted := G_counted) (g_counted := g_counted) (k_counted := k_counted) (b_counted := b_counted) (G_side_counts_ := G_side_counts_) (g_side_counts_ := g_side_counts_) (k_side_counts_ := k_side_counts_) (b_side_counts_ := b_side_counts_)
  have G_law_choose := ok_law_choose (P := P) (w := w) (mg := mg) (base := base) (F := F_law_choose) (z_range := z_range)
  have G_law_product := ok_law_product (P := P) (w := w) (mg := mg) (base := base) (F := F_law_product) (z_range := z_range)
  have G_law_side := ok_law_side (P := P) (w := w) (mg := mg) (base := base) (F := F_law_side) (z_range := z_range) (z_sum := z_sum) (z_int := z_int) (G_law_choose := G_law_choose) (g_law_choose := g_law_choose) (k_law_choose := k_law_choose) (b_law_choose := b_law_choose) (G_law_product := G_law_product) (g_law_product := g_law_product) (k_law_product := k_law_product) (b_law_product := b_law_product)
  have G_law_told := ok_law_told (P := P) (w := w) (mg := mg) (base := base) (F := F_law_told) (T := T_told) (z_isinstance := z_isinstance) (z_str := z_str) (z_int := z_int) (G_by_through := G_by_through) (g_by_through := g_by_through) (k_by_through := k_by_through) (b_by_through := b_by_through)
  exact ok_law (P := P) (w := w) (mg := mg) (base := base) (F := F_law) (z_int := z_int) (z_range := z_range) (z_repr := z_repr) (z_len := z_len) (z_min := z_min) (z_sum := z_sum) (G_law_draws := G_law_draws) (g_law_draws := g_law_draws) (k_law_draws := k_law_draws) (b_law_draws := b_law_draws) (G_law_next := G_law_next) (g_law_next := g_law_next) (k_law_next := k_law_next) (b_law_next := b_law_next) (G_law_family := G_law_family) (g_law_family := g_law_family) (k_law_family := k_law_family) (b_law_family := b_law_family) (G_law_goes := G_law_goes) (g_law_goes := g_law_goes) (k_law_goes := k_law_goes) (b_law_goes := b_law_goes) (G_law_side := G_law_side) (g_law_side := g_law_side) (k_law_side := k_law_side) (b_law_side := b_law_side) (G_law_product := G_law_product) (g_law_product := g_law_product) (k_law_product := k_law_product) (b_law_product := b_law_product) (G_law_told := G_law_told) (g_law_told := g_law_told) (k_law_told := k_law_told) (b_law_told := b_law_told) (G_listed := G_listed) (g_listed := g_listed) (k_listed := k_listed) (b_listed := b_listed) (G_by_through := G_by_through) (g_by_through := g_by_through) (k_by_through := k_by_through) (b_by_through := b_by_through) (G_counted := G_counted) (g_counted := g_counted) (k_counted := k_counted) (b_counted := b_counted)
end T
open PySem PySem.W PyProof.Rows
set_option maxHeartbeats 0 in
theorem PySem.Challenge.cw_threadworth_k81_numbers_by_what_goes_thr_holds : PySem.Challenge.rw_threadworth_k81_numbers_by_what_goes_thr.Holds := by
  w_on; o_law; k_head; (case hw => w_witness2)
  k_fill
  refine L2.walk_ofG (l := PySem.Challenge.rw_threadworth_k81_numbers_by_what_goes_thr) (n := 63) (k := 10) (x := "script") (sp := fun w => T.spLaw _) rfl (by decide) rfl ⟨rfl, by decide, by decide⟩ (fun w h Y => PySem.W.kIn_of Y) ?F (fun _ _ a ns hl hS => ⟨a, ns, rfl, hS, hl, fun _ => rfl⟩)
  case F =>
    intro w mg fa h KX G hmg
    refine' T.all_mk KX G hmg ?a_law_number ?l_law_number ?c_law_number ?k_law_number ?a_law_next ?l_law_next ?c_law_next ?k_law_next ?a_law_draws ?l_law_draws ?c_law_draws ?k_law_draws ?a_law_family ?l_law_family ?c_law_family ?k_law_family ?a_is_size_ ?l_is_size_ ?c_is_size_ ?k_is_size_ ?a_check_size_ ?l_check_size_ ?c_check_size_ ?k_check_size_ ?a_is_diagram ?l_is_diagram ?c_is_diagram ?k_is_diagram ?a_check_diagram ?l_check_diagram ?c_check_diagram ?k_check_diagram ?a_from_labels ?l_from_labels ?c_from_labels ?k_from_labels ?a_check_family ?l_check_family ?c_check_family ?k_check_family ?a_is_strand_ ?l_is_strand_ ?c_is_strand_ ?k_is_strand_ ?a_is_block_size_ ?l_is_block_size_ ?c_is_block_size_ ?k_is_block_size_ ?a_is_block_of_ ?l_is_block_of_ ?c_is_block_of_ ?k_is_block_of_ ?a_is_in ?l_is_in ?c_is_in ?k_is_in ?a_counted_by_last_ ?l_counted_by_last_ ?c_counted_by_last_ ?k_counted_by_last_ ?a_counted ?l_counted ?c_counted ?k_counted ?a_may_follow_ ?l_may_follow_ ?c_may_follow_ ?k_may_follow_ ?a_label_rows_ ?l_label_rows_ ?c_label_rows_ ?k_label_rows_ ?a_listed ?l_listed ?c_listed ?k_listed ?a_law_goes ?l_law_goes ?c_law_goes ?k_law_goes ?a_may_stay_ ?l_may_stay_ ?c_may_stay_ ?k_may_stay_ ?a_keys_with_ ?l_keys_with_ ?c_keys_with_ ?k_keys_with_ ?a_side_counts_ ?l_side_counts_ ?c_side_counts_ ?k_side_counts_ ?a_by_through ?l_by_through ?c_by_through ?k_by_through ?a_law_choose ?l_law_choose ?c_law_choose ?k_law_choose ?a_law_product ?l_law_product ?c_law_product ?k_law_product ?a_law_side ?l_law_side ?c_law_side ?k_law_side ?a_law_told ?l_law_told ?c_law_told ?k_law_told ?a_law ?l_law ?c_law ?k_law ?zn_int ?zn_range ?zn_len ?zn_list ?zn_tuple ?zn_max ?zn_min ?zn_all ?zn_any ?zn_sorted ?zn_repr ?zn_isinstance ?zn_enumerate ?zn_str ?zn_set ?zn_divmod ?zn_sum ?n_BadNumber ?x_BadNumber ?kc_BadNumber ?bc_BadNumber ?tc_BadNumber ?n_NotDiagram ?x_NotDiagram ?kc_NotDiagram ?bc_NotDiagram ?tc_NotDiagram ?n_TooLarge ?x_TooLarge ?kc_TooLarge ?bc_TooLarge ?tc_TooLarge ?n_NotFamily ?x_NotFamily ?kc_NotFamily ?bc_NotFamily ?tc_NotFamily ?n_MOST_ON_A_SIDE ?n_MOST_POINTS ?n_MOST_LISTED ?n_comb ?n_factorial ?n_FAMILIES ?l_FAMILIES ?n_WorthError ?ebc ?ehd ?ety ?hn_cls ?ht_cls ?hg_NotFamily ?hk_NotFamily ?hd_NotFamily ?ha_NotFamily ?hm_NotFamily ?sE_f ?hg_BadNumber ?hk_BadNumber ?hd_BadNumber ?ha_BadNumber ?hm_BadNumber ?sE_b ?t_ff ?t_fb ?t_bf ?t_bb
    (case a_law_number => k_is); (case l_law_number => k_is); (case c_law_number => k_is); (case k_law_number => k_is); (case a_law_next => k_is); (case l_law_next => k_is); (case c_law_next => k_is); (case k_law_next => k_is)
    (case a_law_draws => k_is); (case l_law_draws => k_is); (case c_law_draws => k_is); (case k_law_draws => k_is); (case a_law_family => k_is); (case l_law_family => k_is); (case c_law_family => k_is); (case k_law_family => k_is)
    (case a_is_size_ => k_is); (case l_is_size_ => k_is); (case c_is_size_ => k_is); (case k_is_size_ => k_is); (case a_check_size_ => k_is); (case l_check_size_ => k_is); (case c_check_size_ => k_is); (case k_check_size_ => k_is)
    (case a_is_diagram => k_is); (case l_is_diagram => k_is); (case c_is_diagram => k_is); (case k_is_diagram => k_is); (case a_check_diagram => k_is); (case l_check_diagram => k_is); (case c_check_diagram => k_is); (case k_check_diagram => k_is)
    (case a_from_labels => k_is); (case l_from_labels => k_is); (case c_from_labels => k_is); (case k_from_labels => k_is); (case a_check_family => k_is); (case l_check_family => k_is); (case c_check_family => k_is); (case k_check_family => k_is)
    (case a_is_strand_ => k_is); (case l_is_strand_ => k_is); (case c_is_strand_ => k_is); (case k_is_strand_ => k_is); (case a_is_block_size_ => k_is); (case l_is_block_size_ => k_is); (case c_is_block_size_ => k_is); (case k_is_block_size_ => k_is)
    (case a_is_block_of_ => k_is); (case l_is_block_of_ => k_is); (case c_is_block_of_ => k_is); (case k_is_block_of_ => k_is); (case a_is_in => k_is); (case l_is_in => k_is); (case c_is_in => k_is); (case k_is_in => k_is)
    (case a_counted_by_last_ => k_is); (case l_counted_by_last_ => k_is); (case c_counted_by_last_ => k_is); (case k_counted_by_last_ => k_is); (case a_counted => k_is); (case l_counted => k_is); (case c_counted => k_is); (case k_counted => k_is)
    (case a_may_follow_ => k_is); (case l_may_follow_ => k_is); (case c_may_follow_ => k_is); (case k_may_follow_ => k_is); (case a_label_rows_ => k_is); (case l_label_rows_ => k_is); (case c_label_rows_ => k_is); (case k_label_rows_ => k_is)
    (case a_listed => k_is); (case l_listed => k_is); (case c_listed => k_is); (case k_listed => k_is); (case a_law_goes => k_is); (case l_law_goes => k_is); (case c_law_goes => k_is); (case k_law_goes => k_is)
    (case a_may_stay_ => k_is); (case l_may_stay_ => k_is); (case c_may_stay_ => k_is); (case k_may_stay_ => k_is); (case a_keys_with_ => k_is); (case l_keys_with_ => k_is); (case c_keys_with_ => k_is); (case k_keys_with_ => k_is)
    (case a_side_counts_ => k_is); (case l_side_counts_ => k_is); (case c_side_counts_ => k_is); (case k_side_counts_ => k_is); (case a_by_through => k_is); (case l_by_through => k_is); (case c_by_through => k_is); (case k_by_through => k_is)
    (case a_law_choose => k_is); (case l_law_choose => k_is); (case c_law_choose => k_is); (case k_law_choose => k_is); (case a_law_product => k_is); (case l_law_product => k_is); (case c_law_product => k_is); (case k_law_product => k_is)
    (case a_law_side => k_is); (case l_law_side => k_is); (case c_law_side => k_is); (case k_law_side => k_is); (case a_law_told => k_is); (case l_law_told => k_is); (case c_law_told => k_is); (case k_law_told => k_is)
    (case a_law => k_is); (case l_law => k_is); (case c_law => k_is); (case k_law => k_is); (case zn_int => k_is); (case zn_range => k_is); (case zn_len => k_is); (case zn_list => k_is)
    (case zn_tuple => k_is); (case zn_max => k_is); (case zn_min => k_is); (case zn_all => k_is); (case zn_any => k_is); (case zn_sorted => k_is); (case zn_repr => k_is); (case zn_isinstance => k_is)
    (case zn_enumerate => k_is); (case zn_str => k_is); (case zn_set => k_is); (case zn_divmod => k_is); (case zn_sum => k_is); (case n_BadNumber => k_is); (case x_BadNumber => k_exc); (case kc_BadNumber => k_is)
    (case bc_BadNumber => k_is); (case tc_BadNumber => k_is); (case n_NotDiagram => k_is); (case x_NotDiagram => k_exc); (case kc_NotDiagram => k_is); (case bc_NotDiagram => k_is); (case tc_NotDiagram => k_is); (case n_TooLarge => k_is)
    (case x_TooLarge => k_exc); (case kc_TooLarge => k_is); (case bc_TooLarge => k_is); (case tc_TooLarge => k_is); (case n_NotFamily => k_is); (case x_NotFamily => k_exc); (case kc_NotFamily => k_is); (case bc_NotFamily => k_is)
    (case tc_NotFamily => k_is); (case n_MOST_ON_A_SIDE => k_is); (case n_MOST_POINTS => k_is); (case n_MOST_LISTED => k_is); (case n_comb => k_is); (case n_factorial => k_is); (case n_FAMILIES => k_is); (case l_FAMILIES => k_is)
    (case n_WorthError => k_is); (case ebc => k_is); (case ehd => k_is); (case ety => k_is); (case hn_cls => k_is); (case ht_cls => k_is); (case hg_NotFamily => k_is); (case hk_NotFamily => k_is)
    (case hd_NotFamily => k_is); (case ha_NotFamily => k_is); (case hm_NotFamily => k_is); (case sE_f => k_is); (case hg_BadNumber => k_is); (case hk_BadNumber => k_is); (case hd_BadNumber => k_is); (case ha_BadNumber => k_is)
    (case hm_BadNumber => k_is); (case sE_b => k_is); (case t_ff => kit_is); (case t_fb => kit_is); (case t_bf => kit_is); (case t_bb => kit_is)
