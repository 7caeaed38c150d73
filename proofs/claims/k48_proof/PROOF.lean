import PyProof.Rows.All
import Wide.All
import OpenK.AllK
import Wide.FinOn
import PyProof.EqAt
import PyProof.EqKinds
import PyProof.TupleCall
import HandS.ForExc
import HandS.Comp
import HandS.Iter
import HandS.Gcd
import HandS.Wide
import HandS.Evl
import HandS.Defaults
import HandS.ExcIs
import HandS.TupAny
import HandS.TupMul
import HandS.Walk
import HandS.Rev
import HandS.TupAny
import HandS.TupMul
import HandS.Style
import HandS.Deep
import HandS.Dict
import HandS.ForMost
import HandS.Conv
import HandS.Sort
import HandS.SortInts
import HandS.NoneIn
import KE.DatumOrd
import HandS.IsInst
import HandS.TupSets
import HandS.DictTup
import HandS.Flow
import PyProof.ReprRoads
import PyProof.ReprLen
import PyProof.CallFns
import PyProof.Rows.RegStrFacts
import HandS.List
import KE.LtData
import KE.KDictList
import KE.GoesMore
import KE.DataMinMax
import HandS.CallLocal
import KE.KMathGC
import HandS.SortKw
import HandS.HotCalls
import HandS.ExcCtx
import HandS.Words
import PyProof.Seq
import HandS.SetFor
import HandS.SortRule
import KE.SortData
import HandS.ExcField
import PySem.Challenge.RW_threadworth_k48_closings_and_worths
set_option Elab.async false
set_option linter.all false
set_option maxRecDepth 100000
set_option maxHeartbeats 4000000
namespace T
open PySem PySem.Spec PyProof.Rows L2
/-! ### the mathematics of worlds and numbers -/
def primes : List Int := [2, 3, 5, 7, 11, 13, 17, 19, 23, 29, 31]
def isW (p d : Int) : Bool := if p = 0 then (if -20 ≤ d then decide (d ≤ 20) else false) else (if inV (.int p) (primes.map V.int) = true then (if 0 ≤ d then decide (d < p) else false) else false)
theorem inV_ints {p : Int} : ∀ {l : List Int}, inV (.int p) (l.map V.int) = true → p ∈ l
  | [], h => by cases h
  | x :: l, h => by
    have h1 : ((eqV (.int x) (.int p)) || inV (.int p) (l.map V.int)) = true := h
    rcases (Bool.or_eq_true _ _).mp h1 with h | h
    · have : x = p := of_decide_eq_true (show decide (x = p) = true by simpa [eqV] using h)
      rw [this]
      exact List.mem_cons_self
    · exact List.mem_cons_of_mem _ (inV_ints h)
theorem isW_prime {p d : Int} (h : isW p d = true) (hp : p ≠ 0) : p ∈ primes ∧ 0 ≤ d ∧ d < p := by
  unfold isW at h
  rw [if_neg hp] at h
  by_cases e : inV (.int p) (primes.map V.int) = true
  · rw [if_pos e] at h
    by_cases e2 : 0 ≤ d
    · rw [if_pos e2] at h
      exact ⟨inV_ints e, e2, of_decide_eq_true h⟩
    · rw [if_neg e2] at h
      cases h
  · rw [if_neg e] at h
    cases h
theorem prime_pos {p : Int} (h : p ∈ primes) : 2 ≤ p ∧ p ≤ 31 := by
  simp only [primes, List.mem_cons, List.not_mem_nil, or_false] at h
  omega
theorem inv_exN : ∀ p ∈ [2, 3, 5, 7, 11, 13, 17, 19, 23, 29, 31], ∀ r, r < p → r ≠ 0 → ∃ k, k < p ∧ (k * r) % p = 1 := by decide +kernel
theorem inv_ex {p : Int} (hp : p ∈ primes) {r : Int} (h0 : 0 ≤ r) (h1 : r < p) (hr : r ≠ 0) : ∃ k : Int, 1 ≤ k ∧ k < p ∧ k * r % p = 1 := by
  obtain ⟨n, rfl⟩ := Int.eq_ofNat_of_zero_le (show 0 ≤ p by have := prime_pos hp; omega)
  obtain ⟨m, rfl⟩ := Int.eq_ofNat_of_zero_le h0
  have hn : n ∈ [2, 3, 5, 7, 11, 13, 17, 19, 23, 29, 31] := by
    simp only [primes, List.mem_cons, List.not_mem_nil, or_false] at hp ⊢
    omega
  obtain ⟨k, hk, e⟩ := inv_exN n hn m (by omega) (by omega)
  refine ⟨(k : Int), ?_, by omega, ?_⟩
  · rcases Nat.eq_zero_or_pos k with z | z
    · subst z
      rw [Nat.zero_mul, Nat.zero_mod] at e
      cases e
    · omega
  · have : ((k * m % n : Nat) : Int) = ((1 : Nat) : Int) := by rw [e]
    rw [← Int.natCast_mul, ← Int.natCast_emod, e]
    rfl
/-- lowest terms -/
def gI (a b : Int) : Int := ((Nat.gcd a.natAbs b.natAbs : Nat) : Int)
def low (a b : Int) : Int × Int := if b < 0 then ((-a) / gI a b, (-b) / gI a b) else (a / gI a b, b / gI a b)
theorem gI_pos {a b : Int} (hb : b ≠ 0) : 0 < gI a b := by
  have : 0 < Nat.gcd a.natAbs b.natAbs := Nat.gcd_pos_of_pos_right _ (by omega)
  unfold gI
  omega
theorem gI_le {a b : Int} (hb : b ≠ 0) : gI a b ≤ b.natAbs := by
  have := Nat.gcd_le_right (m := a.natAbs) (n := b.natAbs) (by omega)
  unfold gI
  omega
theorem fdiv_negg (a g : Int) (hg : 0 ≤ g) : a.fdiv (-g) = (-a) / g := by
  rw [← Int.fdiv_eq_ediv_of_nonneg _ hg, ← Int.neg_fdiv_neg (-a) g, Int.neg_neg]
/-- the number a / b -/
def bad (p b : Int) : Prop := b = 0 ∨ (0 < p ∧ b % p = 0)
def IsNum (p a b x y : Int) : Prop := (0 < p ∧ y = 1 ∧ 0 ≤ x ∧ x < p ∧ (x * b - a) % p = 0) ∨ (¬ 0 < p ∧ (x, y) = low a b)
theorem inv_solves {p a b k : Int} (hp : 0 < p) (e : k * (b % p) % p = 1) (h1 : 1 < p) : ((a * k % p) * b - a) % p = 0 := by
  have e1 : (k * b) % p = 1 := by
    rw [Int.mul_emod, Int.emod_emod_of_dvd _ (Int.dvd_refl p), ← Int.mul_emod] at e
    exact e
  have d1 : p ∣ k * b - 1 := by
    apply Int.dvd_of_emod_eq_zero
    rw [Int.sub_emod, e1, Int.emod_eq_of_lt (by omega) h1]
    simp
  have d2 : p ∣ a * k - a * k % p := Int.dvd_self_sub_emod
  apply Int.emod_eq_zero_of_dvd
  have : (a * k % p) * b - a = a * (k * b - 1) - (a * k - a * k % p) * b := by
    rw [Int.mul_sub, Int.sub_mul, Int.mul_assoc]
    omega
  rw [this]
  exact Int.dvd_sub (Int.dvd_mul_of_dvd_right d1) (Int.dvd_mul_of_dvd_left d2)
theorem num_unique {p a b x y x' y' : Int} (hp : p = 0 ∨ p ∈ primes) (hb : ¬ bad p b) (h : IsNum p a b x y) (h' : IsNum p a b x' y') : x = x' ∧ y = y' := by
  rcases h with ⟨h0, e1, l1, u1, m1⟩ | ⟨h0, e1⟩
  · rcases h' with ⟨_, e2, l2, u2, m2⟩ | ⟨h0', _⟩
    · refine ⟨?_, e1.trans e2.symm⟩
      rcases hp with rfl | hp
      · omega
      · have hp2 := prime_pos hp
        have hbp : b % p ≠ 0 := fun z => hb (.inr ⟨h0, z⟩)
        obtain ⟨k, k1, k2, ek⟩ := inv_ex hp (Int.emod_nonneg b (by omega)) (Int.emod_lt_of_pos b h0) hbp
        have e1 : (k * b) % p = 1 := by
          rw [Int.mul_emod, Int.emod_emod_of_dvd _ (Int.dvd_refl p), ← Int.mul_emod] at ek
          exact ek
        have d1 : p ∣ k * b - 1 := by
          apply Int.dvd_of_emod_eq_zero
          rw [Int.sub_emod, e1, Int.emod_eq_of_lt (show (0:Int) ≤ 1 by omega) (show (1:Int) < p by omega)]
          simp
        have d2 : p ∣ (x * b - a) - (x' * b - a) := Int.dvd_sub (Int.dvd_of_emod_eq_zero m1) (Int.dvd_of_emod_eq_zero m2)
        have d3 : p ∣ x - x' := by
          have e : x - x' = k * ((x * b - a) - (x' * b - a)) - (x - x') * (k * b - 1) := by
            have e3 : (x * b - a) - (x' * b - a) = (x - x') * b := by
              rw [Int.sub_mul]
              omega
            rw [e3, Int.mul_sub, Int.mul_one, ← Int.mul_assoc, Int.mul_comm k (x - x'), Int.mul_assoc]
            omega
          rw [e]
          exact Int.dvd_sub (Int.dvd_mul_of_dvd_right d2) (Int.dvd_mul_of_dvd_right d1)
        obtain ⟨c, ec⟩ := d3
        have hc : c = 0 := by
          rcases Int.lt_trichotomy c 0 with z | z | z
          · have : p * c ≤ p * (-1) := Int.mul_le_mul_of_nonneg_left (by omega) (by omega)
            omega
          · exact z
          · have : p * 1 ≤ p * c := Int.mul_le_mul_of_nonneg_left (by omega) (by omega)
            omega
        rw [hc, Int.mul_zero] at ec
        omega
    · exact absurd h0 h0'
  · rcases h' with ⟨h0', _⟩ | ⟨_, e2⟩
    · exact absurd h0' h0
    · have := e1.trans e2.symm
      exact ⟨congrArg Prod.fst this, congrArg Prod.snd this⟩
end T

/-! ### defs that are called where nothing is being shown (no repr is under way): what the law's own def may know -/
namespace L2
open PySem PySem.Spec PyProof.Rows
structure FnG (P : Program) (w : World) (K : PySem.W.Frag) (mg : Str → Option Value) (base : Heap) (k : Nat) (f : Addr) (fd : FuncData) (ps : List Str) (sp : Sp) : Prop where
  len : ∀ vs H Q E, sp vs H Q E → vs.length = ps.length
  run : ∀ (A : Around) (outer : List Env) (s : Shared) (H : Hp) (args : Args) (us : List Value) (vs : List V) (Q : VK) (E : XK), A.guards = some [] → Room k A → Env0 P w K mg base A outer s H →
    BindsTo s fd args (ps.zip us) → Vals vs us → sp vs H Q E → codeAny (model P w) A (.call (.ref f) args) (CR CX0 outer P w H s Q E) s
theorem CE_of {P : Program} {w : World} {K : PySem.W.Frag} {mg : Str → Option Value} {base : Heap} {N : List Str} {qual : Str} {scope : Scope} {f : Addr} {cdv : Value} {A : Around} {outer : List Env} {s s' : Shared} {H H' : Hp} {E : XK} {Q : VK} {σ' : St} {v : V} {u : Value}
    (J : Inv (cxOf CX0 P w K mg base N qual scope f cdv A outer s H E) [] σ' H' s') (rv : RelV v u) (q : Q v H') : CE outer P w H s Q u s' := ⟨v, H', J.os, J.bare, J.base, J.hok, rv, q⟩
theorem Fun.okG {P : Program} {w : World} {K : PySem.W.Frag} {mg : Str → Option Value} {base : Heap} {x qual : Str} {st : Stmt} {f : Addr} {fd : FuncData} {N ps : List Str} {k : Nat} {sp : Sp} (F : Fun K x qual st f fd) (S : FnScope N ps (defScope st))
    (len : ∀ vs H Q E, sp vs H Q E → vs.length = ps.length)
    (hbody : ∀ (cdv : Value) (A : Around) (outer : List Env) (s : Shared) (H : Hp) (vs : List V) (Q : VK) (E : XK), (A.deeper (envOfC qual (defScope st) s.heap.objs.size f cdv)).guards = some [] →
      Room k (A.deeper (envOfC qual (defScope st) s.heap.objs.size f cdv)) → sp vs H Q E →
      ∃ t, PSs (cxOf CX0 P w K mg base N qual (defScope st) f cdv A outer s H E).nox (defBody st) t ∧ t { nx := fun _ H' => Q .non H', rt := Q } (start N vs) H) : FnG P w K mg base (k + 1) f fd ps sp := by
  obtain ⟨oc, od, kV, doc, pm, an, cdv, ct, osl, rfl, lk, hcd⟩ := F.ex
  refine ⟨len, fun A outer s H args us vs Q E hgu hr e0 hb r hsp => ?_⟩
  have keep := fun b o (e : base.get? b = some o) => (e0.bs b o e).1
  have inK : K.In s.heap := e0.mod.kin.keeps keep
  refine codeAny_call_function hr.depth (inK _ _ lk) rfl S.co S.gen rfl (PySem.W.codeRec_of inK hcd) (hb _ _ _ _ ?_)
  refine wpAny_newFunctionEnv_cells S.kind (fun ⟨n, v⟩ hy => ?_) fun env he s1 xx => ?_
  · exact (S.par n (List.of_mem_zip hy).1).elim .inl fun q => .inr ⟨q, PySem.W.cellsFrom_some _ _ _ (.inl q)⟩
  · subst he
    refine ⟨(e0.mod.nolimit.keeps keep).keeps xx.toInCall.keep, codeAny_func ?_⟩
    obtain ⟨t, ht, hq⟩ := hbody cdv A outer s H vs Q E hgu (hr.deeper _) hsp
    have I := inv_start (CX := CX0) (E := E) S hr.hd e0 (len _ _ _ _ hsp) r xx
    refine wpAny_mono (ht.nox.run [] s1 _ H _ I hq) (fun fl s' hs => ?_) fun e s' hs => hs
    rcases fl with _ | _ | _ | u
    · obtain ⟨σ', H', J, q⟩ := hs
      exact CE_of (v := V.non) (u := Value.none) J rfl q
    · exact hs.elim fun _ z => z.elim fun _ z => z.2.elim
    · exact hs.elim fun _ z => z.elim fun _ z => z.2.elim
    · obtain ⟨v, σ', H', J, rv, q⟩ := hs
      exact CE_of J rv q
end L2

namespace L2
open PySem PySem.Spec PyProof.Rows
/-- the law's def, called by the claim's caller: nothing is being shown there -/
theorem goes_at {P : Program} {w : World} {K : PySem.W.Frag} {mg mb : Str → Option Value} {k : Nat} {fa a : Addr} {fd : FuncData} {x : Str} {sp : Sp} {t : Shared} {vs : List Value} {xs : List V} {H : Hp}
    (KX : K.In t.heap) (hns : t.heap.Ns mainGlobals mg) (hb : t.heap.Ns builtinsNs mb) (hbb : ∀ y : Str, y ≠ "__name__" → mb y = bootBuiltins y) (hlim : t.heap.NoLimit) (hg : t.gens = #[])
    (ha : t.heap.get? a = some { cls := .type "list", data := .seq vs.toArray }) (hr : Room k callerA)
    (F : ∀ base : Heap, K.In base → base.Ns mainGlobals mg → FnG P w K mg base k fa fd [x] sp) (hbind : ∀ (s : Shared) (u : Value), BindsTo s fd ⟨[u], []⟩ [(x, u)])
    (hO : Only H) (hsp : sp [.ref a] H (fun v _ => v = .bl true) fun _ _ _ => False) (hok : HOk P w H t.heap) (hA : ∀ b, H b ≠ none → b = a) (hK : H a ≠ none → K.lookup a = none) :
    codeAny (model P w) callerA (.call (.ref fa) ⟨[.ref a], []⟩) (fun r s' => r = .ok (.ret (.bool true)) ∧ OldK t.heap s'.heap ∧ s'.os = t.os ∧ AllBare s'.gens) t := by
  have free : ∀ {b : Addr}, (H b ≠ none → False) → H b = none := fun {b} z => by
    rcases e : H b with _ | u
    · rfl
    · exact (z (by rw [e]; exact fun q => nomatch q)).elim
  have ns : ∀ {b : Addr} {m : Str → Option Value}, t.heap.Ns b m → (hidT t.heap H).Ns b m := fun {b m} z => by
    obtain ⟨o, es, ep, e, d, r⟩ := z
    refine ⟨o, es, ep, hidT_get e (free fun z => ?_), d, r⟩
    rw [hA b z, ha] at e
    cases e
    cases d
  have inB : K.In (hidT t.heap H) := fun b o e => hidT_get (KX b o e) (free fun z => by
    have eb := hA b z
    rw [eb] at z e
    rw [hK z] at e
    cases e)
  obtain ⟨mc, l1, l2⟩ := hlim
  have env : Env0 P w K mg (hidT t.heap H) callerA [] t H := ⟨rfl, ⟨inB, ns hns, ⟨mb, ns hb, hbb⟩, ⟨mc, ns l1, l2⟩⟩, fun b o e => of_hidT e, Nat.le_of_eq (hidT_size _ _), trivial, fun b hb => (nomatch hb), hok, .of_eq hg⟩
  refine codeAny_mono ((F _ inB (ns hns)).run callerA [] t H _ [.ref a] [.ref a] _ _ rfl hr env (hbind t (.ref a)) (.cons rfl .nil) hsp) fun r s' h => ?_
  rcases r with e | fl
  · exact (show False from h).elim
  · rcases fl with _ | _ | _ | u
    · exact (show False from h).elim
    · exact (show False from h).elim
    · exact (show False from h).elim
    · obtain ⟨v, H', os, bare, un, hok', rv, q⟩ := h
      obtain rfl : v = .bl true := q
      obtain rfl : u = Value.bool true := rv
      refine ⟨rfl, OldK.of_keep fun b o e => ?_, os, bare⟩
      rcases hO b with z | ⟨ob, ys, z⟩
      · exact un.keep b o e z (fun z => nomatch z) (fun z => nomatch z)
      · have e1 := (hok b _ z).1
        rw [e] at e1
        rw [Option.some.inj e1]
        exact (hok' b _ (un.frzs b ob _ z)).1
theorem walk_ofG {l : PySem.W.OpenLaw} {n k : Nat} {q : Program} {loose : List Str} {XP : (Str → Option Value) → Heap → Prop} {YP : World → Heap → Prop} {d : DefRec} {K : Params → PySem.W.Frag} {sp : World → Sp} {x : Str}
    (hn : l.most = some n) (hn2 : n ≤ sizeLine) (hdf : d.params.defaults = []) (hr : Room k callerA) (hY : ∀ (w : World) (h : Heap), YP w h → (K w.params).In h)
    (F : ∀ (w : World) (mg : Str → Option Value) (fa : Addr) (h : Heap), (K w.params).In h → h.Ns mainGlobals mg → mg d.name = some (.ref fa) →
      ∃ fd : FuncData, (∀ (s : Shared) (u : Value), BindsTo s fd ⟨[u], []⟩ [(x, u)]) ∧ ∀ base : Heap, (K w.params).In base → base.Ns mainGlobals mg → FnG l.prog w (K w.params) mg base k fa fd [x] (sp w))
    (hsp : ∀ (w : World) (H : Hp) (a : Addr) (ns : List Int), ns.length ≤ n → SqL (K w.params) H a (ns.map V.int) → sp w [.ref a] H (fun v _ => v = .bl true) fun _ _ _ => False) :
    PySem.W.WalkO q loose XP YP l.row.toRowW d [] (fun f vs => PySem.call f vs) := by
  refine Att.attach_call hn hdf fun w s₀ t mg mb fa o pm cd doc a vs ns G Y ho hd hcd hmg hobj hints hlen hg => ?_
  have KX := hY w _ Y
  obtain ⟨fd, hb, hF⟩ := F w mg fa _ KX G.T.g hmg
  have rv : Vals (ns.map V.int) vs := vals_ints hints
  have lv := hints.length
  rcases hk : (K w.params).lookup a with _ | oa
  · refine goes_at (xs := ns.map V.int) (H := fun b => if b = a then some (.frz { cls := .type "list", data := .seq vs.toArray } (.lst (ns.map V.int))) else none) KX G.T.g G.T.b G.T.builtins G.T.nolimit hg hobj hr hF hb
      (fun b => ?_) (hsp w _ a ns hlen (.inl (.inr ⟨_, if_pos rfl⟩))) (fun b u z => ?_) (fun b z => Decidable.byContradiction fun c => z (if_neg c)) fun _ => hk
    · by_cases c : b = a
      · exact .inr ⟨_, _, if_pos c⟩
      · exact .inl (if_neg c)
    · by_cases c : b = a
      · have z' := (if_pos c).symm.trans z
        cases z'
        subst c
        exact ⟨hobj, by rw [List.length_map]; omega, vs, _, rv, hobj⟩
      · have z' := (if_neg c).symm.trans z
        cases z'
  · have e := (KX a oa hk).symm.trans hobj
    cases e
    exact goes_at (xs := ns.map V.int) (H := fun _ => none) KX G.T.g G.T.b G.T.builtins G.T.nolimit hg hobj hr hF hb (fun _ => .inl rfl)
      (hsp w _ a ns hlen (.inr ⟨_, vs.toArray, _, hk, rfl, rfl, rfl, by rw [List.size_toArray]; omega, rv⟩)) (fun b u z => nomatch z) (fun b z => (z rfl).elim) fun z => (z rfl).elim
end L2

namespace L2
open PySem PySem.Spec PyProof.Rows
/-! ### repr(data), where nothing is being shown -/
mutual
def wt : PyData → Nat
  | .none => 4
  | .bool _ => 5
  | .int _ => 1921
  | .str x => (reprText x).length
  | .list xs => wtAll xs + 3
  | .tuple xs => wtAll xs + 3
  | .dict _ => 0
def wtAll : List PyData → Nat
  | [] => 0
  | x :: xs => wt x + 2 + wtAll xs
end
mutual
theorem shown_wt : ∀ d : PyData, d.showable = true → d.hasDict = false → d.shown.length ≤ wt d
  | .none, _, _ => by simp only [PyData.shown, wt]; decide +kernel
  | .bool b, _, _ => by cases b <;> simp only [PyData.shown, wt] <;> decide +kernel
  | .int i, h, _ => by
    simp only [PyData.shown, wt]
    exact int_text_len_1921 (by simpa [PyData.showable] using h)
  | .str x, _, _ => by simp only [PyData.shown, wt]; exact Nat.le_refl _
  | .list xs, h, h2 => by
    simp only [PyData.showable] at h
    simp only [PyData.hasDict] at h2
    simp only [PyData.shown, wt]
    have h3 := shown_wtAll xs h h2
    have h4 := listText_len_le (PyData.shownAll xs)
    omega
  | .tuple xs, h, h2 => by
    simp only [PyData.showable] at h
    simp only [PyData.hasDict] at h2
    simp only [PyData.shown, wt]
    have h3 := shown_wtAll xs h h2
    have h4 := tupleText_len_le (PyData.shownAll xs)
    omega
  | .dict _, _, h2 => by simp [PyData.hasDict] at h2
theorem shown_wtAll : ∀ xs : List PyData, PyData.showableAll xs = true → PyData.hasDictAll xs = false → ((PyData.shownAll xs).map (·.length)).sum + 2 * (PyData.shownAll xs).length ≤ wtAll xs
  | [], _, _ => by simp [PyData.shownAll, wtAll]
  | x :: xs, h, h2 => by
    simp only [PyData.showableAll, Bool.and_eq_true] at h
    simp only [PyData.hasDictAll, Bool.or_eq_false_iff] at h2
    have h3 := shown_wt x h.1 h2.1
    have h4 := shown_wtAll xs h.2 h2.2
    simp only [PyData.shownAll, wtAll, List.map_cons, List.sum_cons, List.length_cons]
    omega
end
def rReprD (K : PySem.W.Frag) : List V → Hp → VK → Prop := fun xs H Q => ∃ x d, xs = [x] ∧ Dp K H x d ∧ SeqAt.shaped d = true ∧ d.showable = true ∧ wt d ≤ sizeLine ∧ Q (.str d.shown) H
theorem cr_reprD {X : Cx} (hg : X.A.guards = some []) (hu : X.A.units + 65 < cLine) : CallR X (.builtin "repr") (rReprD X.K) := by
  intro pins s σ H vs us Q I r h
  obtain ⟨x, d, rfl, hd, hs, hw, hz, q⟩ := h
  cases r with
  | cons rv rn =>
    rename_i v us'
    cases rn
    have hs' : (d.canLay0 && decide (d.depth ≤ 64)) = true := hs
    rw [Bool.and_eq_true] at hs'
    have nd := PyData.hasDict_of_canLay d hs'.1
    have dep : d.depth ≤ 64 := of_decide_eq_true hs'.2
    have sz := Nat.le_trans (shown_wt d hw nd) hz
    obtain ⟨as, rd⟩ := Dp.reads I d x v hd rv
    have ref : ∀ a : Addr, v = .ref a → wpAny (model X.prog X.w) X.A (call (.builtin "repr") [v]) (EP X pins σ Q) X.xe s := fun a e => by
      subst e
      exact repr_of_reads' rd hw (PyData.noDict_hsm nd) hg (by omega) (fun _ _ e => e) (fun h' u tk hk => ⟨.str _, H, I.kept (t' := tk) hk, ⟨u, rfl⟩, q⟩) sz
    cases hd with
    | non =>
      cases rv
      exact PySem.P.repr_of_none ⟨.str _, H, I.tok _, ⟨_, rfl⟩, by simpa only [PyData.shown] using q⟩
    | bl b =>
      cases rv
      exact PySem.P.repr_of_bool ⟨.str _, H, I.tok _, ⟨_, rfl⟩, by simpa only [PyData.shown] using q⟩
    | int i =>
      obtain ⟨t, rfl⟩ := rv
      exact PySem.P.repr_of_int (by simpa [PyData.showable] using hw) ⟨.str _, H, I.tok _, ⟨_, rfl⟩, by simpa only [PyData.shown] using q⟩
    | str y =>
      obtain ⟨t, rfl⟩ := rv
      exact PySem.P.repr_of_str ⟨.str _, H, I.tok _, ⟨_, rfl⟩, by simpa only [PyData.shown] using q⟩ (by simpa only [PyData.shown] using sz)
    | lst _ _ => exact ref _ rv
    | tup _ _ => exact ref _ rv
end L2

namespace T
/-! ### fractions -/
theorem low_pos {a : Int} {n : Nat} (hn : n ≠ 0) : low a (n : Int) = ((Rat.divInt a (n : Int)).num, ((Rat.divInt a (n : Int)).den : Int)) := by
  have e : Rat.divInt a (n : Int) = Rat.normalize a n hn := by
    show mkRat a n = _
    rw [Rat.mkRat_def, dif_neg hn]
  rw [e, Rat.normalize_eq]
  unfold low gI
  rw [if_neg (by omega), Int.natAbs_natCast]
  show (_, _) = (_, (((n / a.natAbs.gcd n : Nat)) : Int))
  rw [Int.natCast_ediv]
theorem low_rat {a b : Int} (hb : b ≠ 0) : low a b = ((Rat.divInt a b).num, ((Rat.divInt a b).den : Int)) := by
  by_cases c : 0 < b
  · obtain ⟨n, rfl⟩ := Int.eq_ofNat_of_zero_le (Int.le_of_lt c)
    exact low_pos (by omega)
  · obtain ⟨n, hn⟩ := Int.eq_ofNat_of_zero_le (show 0 ≤ -b by omega)
    have e : Rat.divInt a b = Rat.divInt (-a) (n : Int) := (Rat.divInt_eq_divInt_iff hb (by omega)).mpr (by rw [← hn, Int.mul_neg, Int.neg_mul])
    rw [e, ← low_pos (by omega), ← hn]
    unfold low gI
    rw [if_pos (by omega), if_neg (by omega), Int.natAbs_neg, Int.natAbs_neg]
theorem low_congr {a b a' b' : Int} (hb : b ≠ 0) (hb' : b' ≠ 0) (h : a * b' = a' * b) : low a b = low a' b' := by
  rw [low_rat hb, low_rat hb', (Rat.divInt_eq_divInt_iff hb hb').mpr h]
theorem low_q {a b u v : Int} (hb : b ≠ 0) (h : (u, v) = low a b) : Rat.divInt u v = Rat.divInt a b ∧ 0 < v := by
  rw [low_rat hb] at h
  have e1 : u = (Rat.divInt a b).num := congrArg Prod.fst h
  have e2 : v = ((Rat.divInt a b).den : Int) := congrArg Prod.snd h
  rw [e1, e2]
  exact ⟨Rat.num_divInt_den _, by have := (Rat.divInt a b).den_pos; omega⟩
theorem low_cross {a b u v : Int} (hb : b ≠ 0) (h : (u, v) = low a b) : u * b = a * v ∧ 0 < v := by
  obtain ⟨h1, h2⟩ := low_q hb h
  exact ⟨(Rat.divInt_eq_divInt_iff (by omega) hb).mp h1, h2⟩
/-- a number times a number: the parts may be reduced ahead or behind -/
theorem num_step {p A B u v a b u' v' : Int} (hp : p = 0 ∨ p ∈ primes) (hB : p = 0 → B ≠ 0) (hb0 : p = 0 → b ≠ 0) (hb1 : p ≠ 0 → b = 1) (hB1 : p ≠ 0 → B = 1) (h : IsNum p A B u v) (h' : IsNum p (u * a) (v * b) u' v') : IsNum p (A * a) (B * b) u' v' := by
  by_cases c : p = 0
  · obtain ⟨_, e⟩ := h.resolve_left (fun z => by omega)
    obtain ⟨_, e'⟩ := h'.resolve_left (fun z => by omega)
    obtain ⟨x1, x2⟩ := low_cross (hB c) e
    refine .inr ⟨by omega, e'.trans (low_congr (Int.mul_ne_zero (by omega) (hb0 c)) (Int.mul_ne_zero (hB c) (hb0 c)) ?_)⟩
    calc u * a * (B * b) = u * B * (a * b) := by rw [Int.mul_assoc, Int.mul_assoc]; congr 1; rw [← Int.mul_assoc, ← Int.mul_assoc, Int.mul_comm a B]
      _ = A * v * (a * b) := by rw [x1]
      _ = A * a * (v * b) := by rw [Int.mul_assoc, Int.mul_assoc]; congr 1; rw [← Int.mul_assoc, ← Int.mul_assoc, Int.mul_comm v a]
  · have hp2 := prime_pos (hp.resolve_left c)
    obtain ⟨h0, e1, l1, u1, m1⟩ := h.resolve_right (fun z => by omega)
    obtain ⟨_, e2, l2, u2, m2⟩ := h'.resolve_right (fun z => by omega)
    refine .inl ⟨h0, e2, l2, u2, ?_⟩
    rw [hB1 c, hb1 c]
    rw [hB1 c, Int.mul_one] at m1
    rw [hb1 c, e1] at m2
    have d1 := Int.dvd_of_emod_eq_zero m1
    have d2 := Int.dvd_of_emod_eq_zero m2
    apply Int.emod_eq_zero_of_dvd
    have e : u' * (1 * 1) - A * a = (u' * (1 * 1) - u * a) + (u - A) * a := by
      rw [Int.sub_mul]
      omega
    rw [e]
    exact Int.dvd_add d2 (Int.dvd_mul_of_dvd_left d1)
theorem low_small {a b u v : Int} (h : (u, v) = low a b) : u.natAbs ≤ a.natAbs ∧ v.natAbs ≤ b.natAbs := by
  have e1 := congrArg Prod.fst h
  have e2 := congrArg Prod.snd h
  unfold low at e1 e2
  by_cases c : b < 0
  · rw [if_pos c] at e1 e2
    have f1 : u = (-a) / gI a b := e1
    have f2 : v = (-b) / gI a b := e2
    have g1 := Int.natAbs_ediv_le_natAbs (-a) (gI a b)
    have g2 := Int.natAbs_ediv_le_natAbs (-b) (gI a b)
    rw [f1, f2]
    omega
  · rw [if_neg c] at e1 e2
    have f1 : u = a / gI a b := e1
    have f2 : v = b / gI a b := e2
    have g1 := Int.natAbs_ediv_le_natAbs a (gI a b)
    have g2 := Int.natAbs_ediv_le_natAbs b (gI a b)
    rw [f1, f2]
    omega
theorem num_small {p a b u v : Int} (hp : p = 0 ∨ p ∈ primes) (h : IsNum p a b u v) (ha : a.natAbs < 2 ^ 199) (hb : b.natAbs < 2 ^ 199) : u.natAbs < 2 ^ 200 ∧ v.natAbs < 2 ^ 200 := by
  rcases h with ⟨h0, rfl, h1, h2, _⟩ | ⟨_, h⟩
  · have := prime_pos (hp.resolve_left (by omega))
    omega
  · have := low_small h
    omega
theorem isW_cases {p d : Int} (hw : isW p d = true) : (p = 0 ∨ p ∈ primes) ∧ d.natAbs ≤ 31 := by
  by_cases c : p = 0
  · refine ⟨.inl c, ?_⟩
    unfold isW at hw
    rw [if_pos c] at hw
    by_cases h1 : -20 ≤ d
    · rw [if_pos h1] at hw
      have := of_decide_eq_true hw
      omega
    · rw [if_neg h1] at hw
      cases hw
  · obtain ⟨h1, h2, h3⟩ := isW_prime hw c
    have := prime_pos h1
    exact ⟨.inr h1, by omega⟩
end T

namespace T
open PySem PySem.Spec PyProof.Rows L2
/-! ### lists of integers as polynomials -/
def co (l : List Int) (k : Nat) : Int := l.getD k 0
theorem co_ge {l : List Int} {k : Nat} (h : l.length ≤ k) : co l k = 0 := by
  unfold co
  rw [List.getD_eq_getElem?_getD, List.getElem?_eq_none h]
  rfl
theorem co_get {l : List Int} {k : Nat} (h : k < l.length) : l[k]? = some (co l k) := by
  unfold co
  rw [List.getD_eq_getElem?_getD, List.getElem?_eq_getElem h]
  rfl
theorem co_mem {l : List Int} {k : Nat} (h : k < l.length) : co l k ∈ l := by
  have e := co_get h
  exact List.mem_of_getElem? e
theorem at_co {l : List Int} {k : Nat} (h : k < l.length) : atI (l.map V.int) (k : Int) = some (.int (co l k)) := atI_nat (by rw [List.getElem?_map, co_get h]; rfl)
theorem at_end {l : List Int} (h : l ≠ []) : atI (l.map V.int) (-1) = some (.int (co l (l.length - 1))) := by
  have hl : 0 < l.length := List.length_pos_iff.mpr h
  have e : l.map V.int = (l.take (l.length - 1)).map V.int ++ [V.int (co l (l.length - 1))] := by
    have e1 : l = l.take (l.length - 1) ++ [co l (l.length - 1)] := by
      have := List.take_succ (l := l) (i := l.length - 1)
      rw [show l.length - 1 + 1 = l.length by omega, List.take_length, co_get (by omega)] at this
      exact this
    conv => lhs; rw [e1]
    rw [List.map_append]
    rfl
  rw [e]
  exact atI_last _ _
/-- no 0 at the end -/
def Pol (l : List Int) : Prop := l = [] ∨ co l (l.length - 1) ≠ 0
theorem pol_len {l m : List Int} (hm : Pol m) (h : ∀ k, co l k = co m k) : m.length ≤ l.length := by
  rcases hm with rfl | hm
  · exact Nat.zero_le _
  · rcases Nat.lt_or_ge l.length m.length with c | c
    · rw [← h, co_ge (by omega)] at hm
      exact absurd rfl hm
    · exact c
theorem pol_ext {l m : List Int} (hl : Pol l) (hm : Pol m) (h : ∀ k, co l k = co m k) : l = m := by
  have h1 := pol_len hm h
  have h2 := pol_len hl (fun k => (h k).symm)
  refine List.ext_getElem? fun k => ?_
  rcases Nat.lt_or_ge k l.length with c | c
  · rw [co_get c, co_get (by omega), h]
  · rw [List.getElem?_eq_none c, List.getElem?_eq_none (by omega)]
theorem co_take {l : List Int} {s k : Nat} (h : ∀ i, s ≤ i → co l i = 0) : co (l.take s) k = co l k := by
  rcases Nat.lt_or_ge k s with c | c
  · unfold co
    rw [List.getD_eq_getElem?_getD, List.getD_eq_getElem?_getD, List.getElem?_take_of_lt c]
  · rw [h k c, co_ge (by rw [List.length_take]; omega)]
theorem pol_take {l : List Int} {s : Nat} (hs : s ≤ l.length) (h : s = 0 ∨ co l (s - 1) ≠ 0) (hz : ∀ i, s ≤ i → co l i = 0) : Pol (l.take s) := by
  rcases h with rfl | h
  · exact .inl rfl
  · by_cases c : s = 0
    · rw [c]
      exact .inl rfl
    · refine .inr ?_
      rw [List.length_take, Nat.min_eq_left hs, co_take hz]
      exact h
theorem co_map {f : Int → Int} (h0 : f 0 = 0) (l : List Int) (k : Nat) : co (l.map f) k = f (co l k) := by
  rcases Nat.lt_or_ge k l.length with c | c
  · have := co_get c
    unfold co
    rw [List.getD_eq_getElem?_getD, List.getElem?_map, List.getD_eq_getElem?_getD, this]
    rfl
  · rw [co_ge (by rw [List.length_map]; omega), co_ge c, h0]
theorem co_set {l : List Int} {i : Nat} {v : Int} (k : Nat) (h : i < l.length) : co (l.set i v) k = if k = i then v else co l k := by
  unfold co
  rw [List.getD_eq_getElem?_getD, List.getElem?_set]
  by_cases c : i = k
  · rw [if_pos c, if_pos c.symm, if_pos (by omega)]
    rfl
  · rw [if_neg c, if_neg (fun z => c z.symm), List.getD_eq_getElem?_getD]
theorem co_zeros (n k : Nat) : co (List.replicate n 0) k = 0 := by
  unfold co
  rw [List.getD_eq_getElem?_getD, List.getElem?_replicate]
  split <;> rfl
theorem map_set (l : List Int) (i : Nat) (v : Int) : (l.map V.int).set i (V.int v) = (l.set i v).map V.int := List.map_set.symm
/-! the value -/
def ev (x : Int) : List Int → Int
  | [] => 0
  | a :: r => a + x * ev x r
theorem ev_append (x : Int) (l : List Int) (a : Int) : ev x (l ++ [a]) = ev x l + x ^ l.length * a := by
  induction l with
  | nil => show a + x * 0 = 0 + x ^ 0 * a; rw [Int.pow_zero]; grind
  | cons b r ih =>
    show b + x * ev x (r ++ [a]) = b + x * ev x r + x ^ (r.length + 1) * a
    rw [ih, Int.pow_succ]
    grind
theorem ev_take (x : Int) {l : List Int} {i : Nat} (h : i < l.length) : ev x (l.take (i + 1)) = ev x (l.take i) + co l i * x ^ i := by
  have e : l.take (i + 1) = l.take i ++ [co l i] := by rw [List.take_succ, co_get h]; rfl
  rw [e, ev_append, List.length_take, Nat.min_eq_left (by omega), Int.mul_comm]
theorem ev_drop (x : Int) {l : List Int} {i : Nat} (h : i < l.length) : ev x (l.drop i) = co l i + x * ev x (l.drop (i + 1)) := by
  rw [List.drop_eq_getElem_cons h]
  have := co_get h
  rw [List.getElem?_eq_getElem h] at this
  rw [Option.some.inj this]
  rfl
/-! the product: what is there behind i rows, and j entries of the next -/
def row (one other : List Int) (i k : Nat) : Int := if i ≤ k then co one i * co other (k - i) else 0
def conv (one other : List Int) : Nat → Nat → Int
  | 0, _ => 0
  | i + 1, k => conv one other i k + row one other i k
theorem conv_more (one other : List Int) (k : Nat) : ∀ i, one.length ≤ i → conv one other i k = conv one other one.length k
  | 0, h => by rw [show one.length = 0 by omega]
  | i + 1, h => by
    by_cases c : one.length = i + 1
    · rw [c]
    · show conv one other i k + row one other i k = _
      rw [conv_more one other k i (by omega)]
      unfold row
      rw [co_ge (l := one) (by omega)]
      split <;> simp
theorem conv_top (one other : List Int) {k : Nat} : ∀ i, i ≤ one.length → i + other.length ≤ k + 1 → conv one other i k = 0
  | 0, _, _ => rfl
  | i + 1, h, hk => by
    show conv one other i k + row one other i k = 0
    rw [conv_top one other i (by omega) (by omega)]
    unfold row
    rw [if_pos (by omega), co_ge (l := other) (by omega)]
    simp
theorem conv_zero (one : List Int) (k : Nat) : ∀ i, conv one [] i k = 0
  | 0 => rfl
  | i + 1 => by
    show conv one [] i k + row one [] i k = 0
    rw [conv_zero one k i]
    unfold row
    rw [show co [] (k - i) = 0 from co_ge (Nat.zero_le _)]
    split <;> simp
theorem rep0 : ∀ n : Nat, (List.replicate n [V.int 0]).flatten = (List.replicate n (0 : Int)).map V.int
  | 0 => rfl
  | n + 1 => by
    rw [List.replicate_succ, List.flatten_cons, rep0 n, List.replicate_succ, List.map_cons]
    rfl
theorem ixN_nat {n j : Nat} (h : j < n) : ixN n (j : Int) = some j := by
  unfold ixN
  rw [if_pos (by omega), if_pos (by omega)]
  rfl
end T

/-! ### tuple * n for n = 0 and n = 1 -/
namespace L2
open PySem PySem.Spec PyProof.Rows
theorem tuple_mulX (l : Addr) (items : Array Value) (n : Nat) (dd : Option Addr) (sl : Array (Option Value)) (x : Int) (u : Tok) (c0 : (decide (x < -(2 ^ 63)) || decide (x ≥ 2 ^ 63)) = false) (c1 : (items.isEmpty || x == 1) = true) :
    Meets (Builtin.«tuple.__mul__» ⟨[.ref l, .int x u], []⟩) (fun _ R s => s.heap.get? l = some { cls := .type "tuple", dict := dd, data := .seq items n, slots := sl } ∧ R (.ok (.ret (Value.ref l))) s) :=
  .of_wp fun prog w A R s h => by
    obtain ⟨hp, g, d, tk, os⟩ := s
    obtain ⟨hl, h⟩ := h
    have f1 := AutoSeq1.idx_int
    wp_walk using wpAny_loadPart' hl
    repeat (first
      | (refine wpAny_ite_false (decide_eq_false (by rw [c0]; exact Bool.false_ne_true)) ?_; wp_walk using wpAny_loadPart' hl)
      | (refine wpAny_ite_true (decide_eq_true c1) ?_; wp_walk using wpAny_loadPart' hl))
    exact ⟨_, rfl, h⟩
theorem tuple_mulZ (l : Addr) (items : Array Value) (n : Nat) (dd : Option Addr) (sl : Array (Option Value)) (x : Int) (u : Tok) (c0 : (decide (x < -(2 ^ 63)) || decide (x ≥ 2 ^ 63)) = false) (c1 : (items.isEmpty || x == 1) = false) (c2 : (decide (x ≤ 0) || items.isEmpty) = true) :
    Meets (Builtin.«tuple.__mul__» ⟨[.ref l, .int x u], []⟩) (fun _ R s => s.heap.get? l = some { cls := .type "tuple", dict := dd, data := .seq items n, slots := sl } ∧
      R (.ok (.ret (Value.ref s.heap.objs.size))) { s with heap := s.heap.push { cls := Value.type "tuple", data := Data.seq #[] }, toks := s.toks }) :=
  .of_wp fun prog w A R s h => by
    obtain ⟨hp, g, d, tk, os⟩ := s
    obtain ⟨hl, h⟩ := h
    have f1 := AutoSeq1.idx_int
    wp_walk using wpAny_loadPart' hl
    repeat (first
      | (refine wpAny_ite_false (decide_eq_false (by rw [c0]; exact Bool.false_ne_true)) ?_; wp_walk using wpAny_loadPart' hl)
      | (refine wpAny_ite_false (decide_eq_false (by rw [c1]; exact Bool.false_ne_true)) ?_; wp_walk using wpAny_loadPart' hl)
      | (refine wpAny_ite_true (decide_eq_true c2) ?_; wp_walk using wpAny_loadPart' hl))
    exact ⟨_, rfl, h⟩
def rRepA (K : PySem.W.Frag) : R2 := fun x y H Q => ∃ l k xs, x = .ref l ∧ y = .int k ∧ SqT K H l xs ∧ xs ≠ [] ∧ 0 ≤ k ∧ k ≤ 1000 ∧ xs.length ≤ 1000 ∧ (k = 1 → Q (.ref l) H) ∧ (k ≠ 1 → ∀ p, H p = none → Q (.ref p) (upd H p (.tup (List.replicate k.toNat xs).flatten)))
section
variable {X : Cx}
theorem op_repA : OpR X (binaryOp .Mult) (rRepA X.K) := by
  intro pins s σ H x y v u Q I rx ry h
  obtain ⟨l, k, xs, rfl, rfl, hT, hne, h1, h2, hz, q1, q⟩ := h
  by_cases big : 2 ≤ k
  · exact op_repT pins s σ H _ _ v u Q I rx ry ⟨l, k, xs, rfl, rfl, hT, hne, big, h2, hz, q (by omega)⟩
  cases rx
  obtain ⟨t, rfl⟩ := ry
  obtain ⟨its, r, ⟨⟨cls, dd, data, sl⟩, ho, hc, n, hd⟩, hs⟩ := I.tuple hT
  simp only at hc hd
  subst hc hd
  have hle : its.length = xs.length := r.length.symm
  have hn : its ≠ [] := fun e => hne (by
    rw [e] at hle
    exact List.eq_nil_of_length_eq_zero hle.symm)
  have hi : its.toArray.isEmpty = false := by
    cases its with
    | nil => exact absurd rfl hn
    | cons a b => rfl
  have c0 : (decide (k < -(2 ^ 63)) || decide (k ≥ 2 ^ 63)) = false := by
    rw [decide_eq_false (by omega), decide_eq_false (by omega)] <;> rfl
  by_cases one : k = 1
  · have c1 : (its.toArray.isEmpty || k == 1) = true := by
      rw [hi, Bool.false_or]
      exact beq_iff_eq.mpr one
    exact wpAny_binaryOp_repeat_ref (T := "tuple") (U := "int") (by decide) ⟨_, ho, rfl⟩ (fun s' => typeIs_int s' k t) noFill_tuple_mul F.fills_int_mul F.slot_int_rmul repeat_tuple F.slot_int_index.lookup
      (call_meets F.slot_int_rmul (typeIs_int s k t) F.entry_int_rmul (F.args_int_rmul_2 _ _) (int_rmul_tuple k t l its.toArray n dd sl)
        ⟨ho, rfl, ⟨_, ho, rfl⟩, call_meets F.slot_tuple_mul ⟨_, ho, rfl⟩ F.entry_tuple_mul (F.args_tuple_mul_2 _ _) (tuple_mulX l its.toArray n dd sl k t c0 c1) ⟨ho, ⟨.ref l, H, I, rfl, q1 one⟩⟩⟩)
  · have zero : k = 0 := by omega
    have c1 : (its.toArray.isEmpty || k == 1) = false := by
      rw [hi, Bool.false_or]
      exact beq_eq_false_iff_ne.mpr one
    have c2 : (decide (k ≤ 0) || its.toArray.isEmpty) = true := by
      rw [hi, Bool.or_false]
      exact decide_eq_true (by omega)
    refine wpAny_binaryOp_repeat_ref (T := "tuple") (U := "int") (by decide) ⟨_, ho, rfl⟩ (fun s' => typeIs_int s' k t) noFill_tuple_mul F.fills_int_mul F.slot_int_rmul repeat_tuple F.slot_int_index.lookup
      (call_meets F.slot_int_rmul (typeIs_int s k t) F.entry_int_rmul (F.args_int_rmul_2 _ _) (int_rmul_tuple k t l its.toArray n dd sl)
        ⟨ho, rfl, ⟨_, ho, rfl⟩, call_meets F.slot_tuple_mul ⟨_, ho, rfl⟩ F.entry_tuple_mul (F.args_tuple_mul_2 _ _) (tuple_mulZ l its.toArray n dd sl k t c0 c1 c2) ⟨ho, ?_⟩⟩)
    refine ⟨.ref s.heap.objs.size, _, I.laid (t' := s.toks) (o := .tup (List.replicate k.toNat xs).flatten) (fun b ob q => Heap.get?_push_of_some _ q) (Nat.le_refl _) ?_, rfl, q one _ (I.hok.fresh (Nat.le_refl _))⟩
    rw [zero]
    exact ⟨Nat.zero_le _, [], .nil, IsTup.new _ _⟩
end
end L2

/-! ### sorted(tuple of integers), x in tuple of tuples -/
namespace SrtO
open PySem PyProof.Rows Srt
section
variable {prog : Program} {w : World} {A : Around} {E : Value → Shared → Prop} {s : Shared}
theorem collect_tup {l : Addr} {vs : List Value} {Q : List Value → Shared → Prop} (hl : s.heap.IsTuple l vs.toArray)
    (h : Q vs { s with heap := (s.heap.push (seqObj "list" #[] 0)).update s.heap.objs.size (Obj.mapSeq (· ++ vs.toArray)) }) (hsz : vs.length ≤ sizeLine) :
    wpAny (model prog w) A (collect (.ref l)) Q E s := by
  obtain ⟨o, ho, hc, n, hd⟩ := id hl
  unfold collect
  refine wpAny_bind (wpAny_runValue (codeAny_builtin entry_proto_collect' ?_))
  show wpAny _ _ (do again (.builtin "list.__iadd__" ⟨[← newList [], .ref l], []⟩)) _ _ s
  refine wpAny_bind (wpAny_newList (wpAny_pure ⟨Code.quiet_builtin _ (by decide +kernel), codeAny_builtin entry_list_iadd' ?_⟩))
  show wpAny _ _ (Builtin.List.listExtendWith (.ref s.heap.objs.size) (.ref l) (.ref s.heap.objs.size)) _ _ { s with heap := s.heap.push (seqObj "list" #[] 0) }
  unfold Builtin.List.listExtendWith
  have ho' : (s.heap.push (seqObj "list" #[] 0)).get? l = some o := Heap.get?_push_of_some _ ho
  refine wpAny_bind (wpAny_typeOf (T := "tuple") ⟨o, ho', hc⟩ ?_)
  have ht : (Value.type "tuple" == Value.type "tuple") = true := by rfl
  rw [if_pos (by rw [ht]; simp)]
  refine wpAny_bind (listItems_at ho' hd ?_)
  refine wpAny_bind (listItems_at (xs := #[]) (n := 0) (Heap.get?_push_size _ rfl) rfl ?_)
  rw [if_neg (by simp)]
  refine wpAny_bind (listUpdate_at (xs := #[]) (n := 0) (Heap.get?_push_size _ rfl) rfl ?_ (Nat.zero_le _) (by show (#[] ++ vs.toArray).size ≤ sizeLine + 1; simp only [Array.size_append, List.size_toArray, List.length_nil]; omega))
  refine wpAny_pure ?_
  show wpAny (model prog w) A (do
      let o ← load s.heap.objs.size
      match o.data with
      | .seq xs _ => pure xs.toList
      | _ => unsupported "internal:collect") Q E { s with heap := (s.heap.push (seqObj "list" #[] 0)).update s.heap.objs.size (Obj.mapSeq (· ++ vs.toArray)) }
  refine wpAny_bind (wpAny_load (get?_update_seq (Heap.get?_push_size _ rfl) _) ?_)
  show wpAny _ _ (pure ((#[] : Array Value) ++ vs.toArray).toList) Q E _
  rw [show ((#[] : Array Value) ++ vs.toArray).toList = vs by simp]
  exact wpAny_pure h
theorem sorted_ordT {l : Addr} {vs : List Value} {ltv : Value → Value → Bool} {Q : Value → Shared → Prop} (O : Swo ltv) (hl : s.heap.IsTuple l vs.toArray) (hz : vs.length ≤ sizeLine)
    (hS : 2 ≤ vs.length → ∀ (h₁ : Heap) (a : Addr), h₁.get? a = some (seqObj "list" vs.toArray 0) → (∀ b o, s.heap.get? b = some o → b ≠ a ∧ h₁.get? b = some o) → SortableO prog w A.in1.in1 { s with heap := h₁ } a vs ltv)
    (h : ∀ out : List Value, Srtd ltv out → Stb ltv out vs → Q (.ref (s.heap.objs.size + 1)) { s with heap := sortedAll s.heap vs out.toArray }) :
    wpAny (model prog w) A (call (.builtin "sorted") [.ref l]) Q E s := by
  refine Calls.call_function_entry kind_sorted plain_sorted entry_sorted (args_sorted1 _) ?_
  unfold Builtin.«sorted»
  refine wpAny_bind (m := checkCount "sorted" 1 1 _) (wpAny_pure ?_)
  refine wpAny_bind (collect_tup hl ?_ hz)
  refine wpAny_bind (wpAny_newList ?_ hz)
  have hsz : ((s.heap.push (seqObj "list" #[] 0)).update s.heap.objs.size (Obj.mapSeq (· ++ vs.toArray))).objs.size = s.heap.objs.size + 1 := by
    rw [Heap.size_update, size_push']
  have hoL : (((s.heap.push (seqObj "list" #[] 0)).update s.heap.objs.size (Obj.mapSeq (· ++ vs.toArray))).push (seqObj "list" vs.toArray 0)).get? (s.heap.objs.size + 1) = some (seqObj "list" vs.toArray 0) := by
    rw [← hsz]; exact Heap.get?_push_size _ rfl
  have keep : ∀ b o, s.heap.get? b = some o → b ≠ s.heap.objs.size + 1 ∧ (((s.heap.push (seqObj "list" #[] 0)).update s.heap.objs.size (Obj.mapSeq (· ++ vs.toArray))).push (seqObj "list" vs.toArray 0)).get? b = some o := fun b o q => by
    have hlt : b < s.heap.objs.size := Heap.lt_size q
    refine ⟨Nat.ne_of_lt (Nat.lt_succ_of_lt hlt), Heap.get?_push_of_some _ ?_⟩
    rw [Heap.get?_update_ne _ _ _ _ (Nat.ne_of_lt hlt)]
    exact Heap.get?_push_of_some _ q
  show wpAny _ _ _ _ _ { s with heap := ((s.heap.push (seqObj "list" #[] 0)).update s.heap.objs.size (Obj.mapSeq (· ++ vs.toArray))).push (seqObj "list" vs.toArray 0) }
  rw [hsz]
  refine wpAny_bind (wpAny_holding (wpAny_call_entry slot_list_sort ⟨_, hoL, rfl⟩ entry_list_sort (list_sort_ord O hoL hz (fun h2 => hS h2 _ _ hoL keep) fun out hs hb => ⟨_, rfl, ?_⟩) (args_list_sort _)))
  exact wpAny_pure ⟨_, rfl, h out hs hb⟩
end
end SrtO
namespace L2
open PySem PySem.Spec PyProof.Rows
def rSortedIT (K : PySem.W.Frag) : List V → Hp → VK → Prop := fun vs H Q => ∃ (a : Addr) (ns : List Int), vs = [V.ref a] ∧ SqT K H a (ns.map V.int) ∧
  ∀ (ns' : List Int) (p : Addr), ns'.Perm ns → ns'.Pairwise (· ≤ ·) → H p = none → Q (.ref p) (upd H p (.lst (ns'.map V.int)))
def rInDT (K : PySem.W.Frag) : R2 := fun x y H Q => ∃ d ds, Dp K H x d ∧ Dp K H y (.tuple ds) ∧ SeqAt.shaped d = true ∧ SeqAt.shaped (.tuple ds) = true ∧ Q (.bl (ds.any fun z => PyData.eqv z d)) H
section
variable {X : Cx}
theorem cr_sortedIT : CallR X (.builtin "sorted") (rSortedIT X.K) := by
  intro pins s σ H vs us Q I r h
  obtain ⟨a, ns, rfl, hs, q⟩ := h
  obtain ⟨its, rv, hl, hz⟩ := I.tuple hs
  rw [Vals.ref1 r]
  have hi := rv.ints
  refine SrtO.sorted_ordT SrtO.swo_int hl (by rw [← rv.length]; exact hz) (fun h2 h₁ a' _ _ => SrtO.ints_sortable hi h2) fun out h1 h2 => ?_
  obtain ⟨k1, k2, k3⟩ := SrtO.ints_out hi h1 h2
  obtain ⟨ep, he'⟩ := PyProof.Rows.sortedAll_at s.heap its out.toArray
  have hlen : ((out.map SrtO.iv).map V.int).length ≤ sizeLine := by
    rw [List.length_map, k2.length_eq]
    rw [List.length_map] at hz
    exact hz
  exact ⟨.ref _, upd H (s.heap.objs.size + 1) (.lst ((out.map SrtO.iv).map V.int)), I.laid (t' := s.toks) (fun _ _ => PyProof.Rows.sortedAll_old) (Nat.le_succ _) ⟨hlen, out, ep, vals_of_ints k1, he'⟩, rfl, q _ _ k2 k3 (I.hok.fresh (Nat.le_succ _))⟩
theorem op_inDT (hu : X.A.units + 65 < cLine) : OpR X (compareOp .In) (rInDT X.K) := by
  intro pins s σ H x y v u Q I rx ry h
  obtain ⟨d, ds, hd, he, sd, se, q⟩ := h
  obtain ⟨as, r1⟩ := Dp.reads I d x v hd rx
  obtain ⟨bs, r2⟩ := Dp.reads I (.tuple ds) y u he ry
  exact SeqAt.in_tuple_reads r2 r1 (SeqAt.canLay_of_shaped se) (SeqAt.canLay_of_shaped sd) (room_in_shaped sd hu) ⟨.bl _, H, I, rfl, q⟩
end
end L2

/-! ### tuple[::-1], nested data by <, x not in range(..) -/
namespace HT
open PySem PySem.Spec PyProof.Rows
section
variable {prog : Program} {w : World} {A : Around} {E : Value → Shared → Prop} {s : Shared}
theorem sliceApplied_rev {sl : Addr} {vl vu vs : Value} {n : Nat} {Q : Int × Int × Nat → Shared → Prop} (hs : s.heap.IsSliceOf sl vl vu vs) (pl : IsPart vl none) (pu : IsPart vu none) (ps : IsPart vs (some (-1)))
    (h : Q ((n : Int) - 1, -1, n) s) : wpAny (model prog w) A (Builtin.Slice.sliceApplied (.ref sl) (pure (n : Int))) Q E s := by
  obtain ⟨os, hos, hcs, hds⟩ := id hs
  unfold Builtin.Slice.sliceApplied Builtin.Slice.sliceFields
  refine wpAny_bind (wpAny_bind (wpAny_field hos hds (x := vl) rfl (wpAny_bind (wpAny_field hos hds (x := vu) rfl (wpAny_bind (wpAny_field hos hds (x := vs) rfl (wpAny_pure ?_)))))))
  refine wpAny_bind (slicePart_ ps ?_)
  show wpAny _ _ (if ((-1 : Int) == 0) = true then _ else _) _ _ s
  rw [if_neg (by decide)]
  refine wpAny_bind (slicePart_ pl (wpAny_bind (slicePart_ pu (wpAny_bind (wpAny_pure ?_)))))
  have e2 : Builtin.Slice.slicePlaces ((n : Int) - 1) (-1) (-1) = n := by
    unfold Builtin.Slice.slicePlaces
    rw [if_neg (by decide)]
    by_cases c : (n : Int) - 1 > -1
    · rw [if_pos c, show -(-1 : Int) = 1 from rfl, Int.ediv_one]
      omega
    · rw [if_neg c]
      omega
  show wpAny _ _ (pure (((n : Int) - 1), (-1 : Int), Builtin.Slice.slicePlaces ((n : Int) - 1) (-1) (-1))) _ _ s
  rw [e2]
  exact wpAny_pure h
theorem fm_some {α β : Type} {f : α → Option β} {g : α → β} : ∀ l : List α, (∀ k ∈ l, f k = some (g k)) → l.filterMap f = l.map g
  | [], _ => rfl
  | a :: l, h => by
    rw [List.filterMap_cons, h a List.mem_cons_self, List.map_cons, fm_some l fun k hk => h k (List.mem_cons_of_mem _ hk)]
theorem pick_rev (items : Array Value) : ((List.range items.size).filterMap fun (k : Nat) => items[((items.size : Int) - 1 + (k : Int) * (-1)).toNat]?).toArray = items.toList.reverse.toArray := by
  congr 1
  have hlt : ∀ k ∈ List.range items.size, k < items.size := fun k hk => List.mem_range.mp hk
  have e : ∀ k, k < items.size → items[((items.size : Int) - 1 + (k : Int) * (-1)).toNat]? = some (items.toList.reverse.getD k .none) := fun k hk => by
    rw [show ((items.size : Int) - 1 + (k : Int) * (-1)).toNat = items.size - 1 - k by omega, List.getD_eq_getElem?_getD, List.getElem?_reverse (by rw [Array.length_toList]; exact hk), Array.length_toList, Array.getElem?_toList]
    rw [Array.getElem?_eq_getElem (by omega)]
    rfl
  have e2 : ((List.range items.size).filterMap fun (k : Nat) => items[((items.size : Int) - 1 + (k : Int) * (-1)).toNat]?) = (List.range items.size).map fun k => items.toList.reverse.getD k .none := by
    exact fm_some _ fun k hk => e k (hlt k hk)
  rw [e2]
  refine List.ext_getElem (by rw [List.length_map, List.length_range, List.length_reverse, Array.length_toList]) fun i h1 h2 => ?_
  rw [List.getElem_map, List.getElem_range, List.getD_eq_getElem?_getD, List.getElem?_eq_getElem h2]
  rfl
theorem getItem_tuple_rev {t sl : Addr} {items : Array Value} {vl vu vs : Value} {Q : Value → Shared → Prop} (ht : IsTup s.heap t items) (hs : s.heap.IsSliceOf sl vl vu vs) (pl : IsPart vl none) (pu : IsPart vu none) (ps : IsPart vs (some (-1)))
    (h : Q (.ref s.heap.objs.size) { s with heap := s.heap.push { cls := .type "tuple", data := .seq items.toList.reverse.toArray } }) (hsz : items.size ≤ sizeLine) : wpAny (model prog w) A (getItem (.ref t) (.ref sl)) Q E s := by
  have htake : sizeOk (.seq items.toList.reverse.toArray) := by
    show items.toList.reverse.toArray.size ≤ sizeLine
    rw [List.size_toArray, List.length_reverse, Array.length_toList]
    exact hsz
  obtain ⟨os, hos, hcs, hds⟩ := id hs
  have hTs : s.TypeIs (.ref sl) "slice" := ⟨os, hos, hcs⟩
  unfold getItem
  try with_reducible refine wpAny_holding ?_
  first | refine wpAny_bind (wpAny_pure ?_) | skip
  refine wpAny_bind (wpAny_sequenceKey ht.typeIs (by decide) ?_)
  refine wpAny_bind (wpAny_callSpecial?_slot (name := Str.ofString "__getitem__") ht.typeIs PyProof.Rows.slot_tuple_getitem
    (wpAny_call_entry PyProof.Rows.slot_tuple_getitem ht.typeIs entry_tuple_getitem ?_ (args_tuple_getitem _ _)))
  show wpAny _ _ (Builtin.Tuple.tupleItemsOf (.ref t) >>= _) _ _ s
  refine wpAny_bind (tupleItemsOf_ ht ?_)
  refine wpAny_bind (wpAny_typeOf hTs ?_)
  rw [if_pos (by decide)]
  refine wpAny_bind (sliceApplied_rev hs pl pu ps ?_)
  have hno : ¬ ((((items.size : Int) - 1) == 0 && (-1 : Int) == 1 && items.size == items.size) = true) := by
    intro q
    rw [Bool.and_eq_true, Bool.and_eq_true] at q
    have q1 : (-1 : Int) = 1 := eq_of_beq q.1.2
    omega
  show wpAny _ _ (if (((items.size : Int) - 1) == 0 && (-1 : Int) == 1 && items.size == items.size) = true then _ else _) _ _ s
  rw [if_neg hno, pick_rev]
  first
    | exact wpAny_bind (m := Builtin.Tuple.tupleExact _) (wpAny_newObj_type (wpAny_pure ⟨_, rfl, wpAny_pure h⟩) htake)
    | exact wpAny_bind (m := Builtin.Tuple.tupleExact _) (wpAny_newObj_type (wpAny_bind (wpAny_pure (wpAny_pure ⟨_, rfl, wpAny_pure h⟩))) htake)
    | exact wpAny_bind (wpAny_bind (m := Builtin.Tuple.tupleExact _) (wpAny_newObj_type (wpAny_pure (wpAny_pure ⟨_, rfl, wpAny_pure h⟩)) htake))
    | exact wpAny_bind (wpAny_bind (m := Builtin.Tuple.tupleExact _) (wpAny_newObj_type (wpAny_pure ⟨_, rfl, wpAny_pure h⟩) htake))
end
end HT
namespace L2
open PySem PySem.Spec PyProof.Rows
def tRevT (K : PySem.W.Frag) (te : TE) : TE := fun σ H Q => te σ H fun x H1 => ∃ a xs, x = .ref a ∧ SqT K H1 a xs ∧ ∀ p, H1 p = none → Q (.ref p) (upd H1 p (.tup xs.reverse))
section
variable {X : Cx}
theorem pe_revT {e : Expr} {te : TE} {k : Nat} {p1 p2 p3 pos : Pos} {K : PySem.W.Frag} (hK : X.K = K) (he : PE X e te) : PE X (.Subscript e (.Slice none none (some (.UnaryOp .USub (.Constant (.int 1) k p1) p2)) p3) pos) (tRevT K te) := by
  subst hK
  refine ⟨fun pins s σ H Q I h => ?_⟩
  refine Subscript_ (thn (he.run pins s σ H _ I h) fun v s1 ⟨x, H1, I1, r1, q1⟩ => ?_)
  obtain ⟨a, xs, ex, hx, q⟩ := q1
  subst ex
  cases r1
  have hst : PO X (some (.UnaryOp .USub (.Constant (.int 1) k p1) p2)) (tPart (tUn (rU fun i => .int (-i)) (tC (.int 1)))) := po_some (pe_un un_neg pe_int)
  refine wpAny_Slice (thn (po_none.run pins s1 σ H1 (fun o H2 => o = none ∧ H2 = H1) I1 ⟨rfl, rfl⟩) fun vl s2 ⟨l, H2, I2, pl, el, e2⟩ => ?_)
  subst el e2
  refine thn (po_none.run pins s2 σ H2 (fun o H3 => o = none ∧ H3 = H2) I2 ⟨rfl, rfl⟩) fun vu s3 ⟨u, H3, I3, pu, eu, e3⟩ => ?_
  subst eu e3
  refine thn (hst.run pins s3 σ H3 (fun o H4 => o = some (-1) ∧ H4 = H3) I3 ⟨1, rfl, -1, rfl, rfl, rfl⟩) fun vs s4 ⟨o, H4, I4, ps, eo, e4⟩ => ?_
  subst eo e4
  have I5 : Inv X pins σ H4 { s4 with heap := s4.heap.push { cls := .type "slice", data := .fields #[vl, vu, vs] } } := I4.kept (t' := s4.toks) fun b ob q => Heap.get?_push_of_some _ q
  obtain ⟨its, r, ht, hz⟩ := I5.tuple hx
  have hlen := r.length
  show wpAny (model X.prog X.w) X.A (subscriptTail e (.Slice none none (some (.UnaryOp .USub (.Constant (.int 1) k p1) p2)) p3) (.ref a) (.ref s4.heap.objs.size)) (EP X pins σ Q) X.xe { s4 with heap := s4.heap.push { cls := .type "slice", data := .fields #[vl, vu, vs] } }
  refine tail_any (ops := [.ref a, .ref s4.heap.objs.size]) ht.typeIs (PyProof.Rows.slot_tuple_getitem.lookup) ?_ (by with_unfolding_all rfl)
  refine HT.getItem_tuple_rev ht (Heap.IsSliceOf.new _ vl vu vs) pl pu ps ?_ (by rw [List.size_toArray]; omega)
  refine ⟨.ref _, _, I5.laid (t' := s4.toks) (o := .tup xs.reverse) (fun b ob q => Heap.get?_push_of_some _ q) (Nat.le_refl _) ?_, rfl, q _ (I5.hok.fresh (Nat.le_refl _))⟩
  exact ⟨by rw [List.length_reverse]; exact hz, _, r.reverse, IsTup.new _ _⟩
/-- nested data of one shape -/
def rLtD (K : PySem.W.Frag) : R2 := fun x y H Q => ∃ d e, Dp K H x d ∧ Dp K H y e ∧ PySem.W.alike d e = true ∧ d ≠ .none ∧ d.depth ≤ 64 ∧ Q (.bl (PySem.W.dataLt d e)) H
theorem op_ltD (hu : X.A.units + 64 < cLine) : OpR X (compareOp .Lt) (rLtD X.K) := by
  intro pins s σ H x y v u Q I rx ry h
  obtain ⟨d, e, hd, he, al, nn, dep, q⟩ := h
  obtain ⟨as, r1⟩ := Dp.reads I d x v hd rx
  obtain ⟨bs, r2⟩ := Dp.reads I e y u he ry
  exact PySem.W.rcLt_alike d e X.A s v u as bs r1 r2 al nn (by have := Nat.min_le_left d.depth e.depth; omega) X.prog X.w _ _ ⟨.bl _, H, I, rfl, q⟩
theorem cr_range1 : CallR X (.type "range") (fun vs H Q => ∃ j, vs = [V.int j] ∧ ∀ p, H p = none → Q (.ref p) (upd H p (.rng 0 j))) := by
  intro pins s σ H vs us Q I r h
  obtain ⟨j, rfl, q⟩ := h
  obtain ⟨u1, rfl, rj⟩ : ∃ u1, us = [u1] ∧ RelV (.int j) u1 := by
    cases r with
    | cons r rr =>
      cases rr
      exact ⟨_, rfl, r⟩
  obtain ⟨u, rfl⟩ := rj
  refine call_range_1 ⟨.ref s.heap.objs.size, upd H s.heap.objs.size (.rng 0 j), I.laid (t' := s.toks + 1 + 1) (fun b o e => Heap.get?_push_of_some _ e) (Nat.le_refl _) ?_, rfl, q _ (I.hok.fresh (Nat.le_refl _))⟩
  exact ⟨s.toks, u, s.toks + 1, Heap.get?_push_size _ rfl⟩
theorem op_notIn_rng : OpR X (compareOp .NotIn) (fun x y H Q => ∃ i a lo hi, x = V.int i ∧ y = V.ref a ∧ H a = some (.rng lo hi) ∧ Q (.bl (!decide (lo ≤ i ∧ i < hi))) H) := by
  intro pins s σ H x y v u Q I rx ry h
  obtain ⟨i, a, lo, hi, rfl, rfl, ha, q⟩ := h
  obtain ⟨k, rfl⟩ := rx
  obtain rfl : u = Value.ref a := ry
  obtain ⟨t1, t2, t3, ho⟩ := I.hok a _ ha
  show wpAny _ _ (do return Value.bool (!(← contains (Value.ref a) (Value.int i k)))) _ _ s
  refine wpAny_bind (wpAny_contains_slot (T := "range") ⟨_, ho, rfl⟩ F.slot_range_contains (call_meets F.slot_range_contains ⟨_, ho, rfl⟩ F.entry_range_contains (F.args_range_contains_2 _ _) (q_contains a lo hi i t1 t2 t3 k)
    ⟨ho, wpAny_truthy_bool (wpAny_pure ⟨.bl _, H, I, rfl, ?_⟩)⟩))
  rw [place1]
  exact q
end
end L2

/-! ### tuple(d.values()) -/
namespace L2
open PySem PySem.Spec PyProof.Rows PySem.W
section
variable {prog : Program} {w : World} {A : Around} {E : Value → Shared → Prop} {s : Shared} {T : String} {r d : Addr} {n : Nat} {P : Nat → Value → Prop} {OK : Heap → Prop}
theorem collect_kdl {Q : List Value → Shared → Prop} (K : KdlSrc prog w T r d n P OK) (hh : A.handled = none) (hok : OK s.heap) (hn : n ≤ sizeLine)
    (hQ : ∀ (h' : Heap) (tk : Nat) (acc : Array Value), (∀ b o, s.heap.get? b = some o → h'.get? b = some o) → ItemsOf P acc n → Q acc.toList { s with heap := h', toks := tk }) :
    wpAny (model prog w) A (collect (.ref r)) Q E s := by
  have hlt := K.there _ hok
  unfold collect
  refine wpAny_bind (wpAny_runValue (codeAny_builtin F.entry_proto_collect ?_))
  rw [Around.under_plainId F.plain_proto_collect _]
  show wpAny _ A.in1 (newList [] >>= fun l => again (.builtin "list.__iadd__" ⟨[l, .ref r], []⟩)) _ _ s
  refine wpAny_bind (wpAny_newObj_type ?_)
  refine wpAny_pure ⟨plainId_quiet F.plain_list_iadd _, codeAny_builtin F.entry_list_iadd ?_⟩
  rw [Around.under_plainId F.plain_list_iadd _]
  show wpAny _ A.in1 (Builtin.List.listExtendWith (.ref s.heap.objs.size) (.ref r) (.ref s.heap.objs.size)) _ _ _
  have hS : (s.heap.push { cls := .type "list", data := .seq ([] : List Value).toArray }).get? s.heap.objs.size = some { cls := .type "list", data := .seq #[] 0 } := Heap.get?_push_size _ rfl
  refine wpAny_mono (kdl_extend (A := A) (R := fun rr s' => rr = .ok (.ret (.ref s.heap.objs.size)) ∧ ∃ (h' : Heap) (tk : Nat) (acc : Array Value) (c' : Nat), s' = { s with heap := h', toks := tk } ∧
      (∀ b o, s.heap.get? b = some o → h'.get? b = some o) ∧ h'.get? s.heap.objs.size = some { cls := .type "list", dict := none, data := .seq acc c', slots := #[] } ∧ ItemsOf P acc n)
    (s := { s with heap := s.heap.push { cls := .type "list", data := .seq ([] : List Value).toArray } }) K hh (K.keep _ _ hok fun b _ o e => Heap.get?_push_of_some _ e) _ (Nat.ne_of_gt hlt.1) (Nat.ne_of_gt hlt.2) _ 0 hS
    (fun h' tk acc c' hk e hi => ⟨rfl, h', tk, acc, c', rfl, fun b o q => hk b o (Nat.ne_of_lt (Heap.lt_size q)) (Heap.get?_push_of_some _ q), e, hi⟩) hn) (fun fin s' h => ?_) (fun e s' h => ?_)
  · cases fin with
    | done f =>
      obtain ⟨e, h', tk, acc, c', rfl, hk, hS', hi⟩ := h
      cases e
      show wpAny _ A (load s.heap.objs.size >>= _) _ _ _
      exact wpAny_bind (wpAny_load hS' (wpAny_pure (hQ h' tk acc hk hi)))
    | again c' =>
      refine ⟨h.1, codeAny_mono h.2 fun rr s'' hr' => ?_⟩
      obtain ⟨rfl, h', tk, acc, c', rfl, hk, hS', hi⟩ := hr'
      show wpAny _ A (load s.heap.objs.size >>= _) _ _ _
      exact wpAny_bind (wpAny_load hS' (wpAny_pure (hQ h' tk acc hk hi)))
  · exact absurd h.1 (by simp)
theorem code_tuple_new_kdl {Q₁ : Value → Shared → Prop} (K : KdlSrc prog w "dict_values" r d n P OK) (hh : A.handled = none) (hok : OK s.heap) (hn : n ≤ sizeLine)
    (h : ∀ (h' : Heap) (tk : Nat) (acc : Array Value), (∀ b o, s.heap.get? b = some o → h'.get? b = some o) → ItemsOf P acc n →
      Q₁ (.ref h'.objs.size) { s with heap := h'.push { cls := .type "tuple", data := .seq acc }, toks := tk }) :
    codeAny (model prog w) A (.call (.builtin "tuple.__new__") ⟨[.type "tuple", .ref r], []⟩) (wants Q₁ E) s := by
  refine codeAny_of_tree ?_
  show wpAny _ A.in1 (do checkBuiltinCall "tuple.__new__" ⟨[.type "tuple", .ref r], []⟩; again (.builtin "tuple.__new__" ⟨[.type "tuple", .ref r], []⟩)) _ _ s
  refine wpAny_bind (wpAny_of_eq (F.newCall_tuple_1 _) (wpAny_pure ⟨plainId_quiet F.plain_tuple_new _, codeAny_builtin F.entry_tuple_new ?_⟩))
  rw [Around.under_plainId F.plain_tuple_new _]
  have hsub := sub_tuple_self
  have hinit := init_tuple_lookup
  have hmh := madeHere_tuple
  have hTI : s.TypeIs (.ref r) "dict_values" := K.type s hok
  have hh1 : A.in1.handled = none := hh
  wp_walk using wpAny_typeOf hTI, collect_kdl (A := A.in1) K hh1 hok hn
  intro h' tk acc hk hacc
  show wpAny _ _ (Builtin.Tuple.tupleExact acc.toList.toArray >>= fun v => ret v) _ _ _
  unfold Builtin.Tuple.tupleExact
  refine wpAny_bind (wpAny_newObj_type ?_ (by show acc.toList.toArray.size ≤ sizeLine; simp only [Array.toArray_toList]; rw [hacc.1]; exact hn))
  refine wpAny_pure ?_
  have e : acc.toList.toArray = acc := by simp
  rw [e]
  exact h h' tk acc hk hacc
theorem call_tuple_kdl {Q : Value → Shared → Prop} (K : KdlSrc prog w "dict_values" r d n P OK) (hh : A.handled = none) (hok : OK s.heap) (hn : n ≤ sizeLine)
    (hQ : ∀ (h' : Heap) (tk : Nat) (acc : Array Value), (∀ b o, s.heap.get? b = some o → h'.get? b = some o) → ItemsOf P acc n →
      Q (.ref h'.objs.size) { s with heap := h'.push { cls := .type "tuple", data := .seq acc }, toks := tk }) :
    wpAny (model prog w) A (call (.type "tuple") [.ref r]) Q E s := by
  refine callType_codes (Q₁ := fun obj s₁ => s₁.TypeIs obj "tuple" ∧ Q obj s₁) F.called_tuple (F.typeCall_tuple_1 _) F.entry_object_init
    (code_tuple_new_kdl (A := A.in1) K hh hok hn fun h' tk acc hk hacc => ⟨⟨_, Heap.get?_push_size _ rfl, rfl⟩, hQ h' tk acc hk hacc⟩) fun obj s₁ h₁ => ?_
  exact ⟨h₁.1, F.args_object_init_2 obj _, object_init_meets F.called_tuple.init.lookup F.called_tuple.made (by decide) prog w A.in1 _ s₁ ⟨h₁.1, rfl, h₁.2⟩⟩
end
def tTupVals (td : TE) : TE := fun σ H Q => td σ H fun x H1 => ∃ a kvs, x = V.ref a ∧ H1 a = some (.dK kvs) ∧ ∀ p, H1 p = none → Q (.ref p) (upd H1 p (.tup (kvs.map (·.2))))
section
variable {X : Cx} {o : Expr} {p pos apos mpos : Pos} {td : TE}
theorem pe_tupVals (hc : X.calm = true) (hg : Gl X "tuple") (hm : X.mg "tuple" = none) (hd : PE X o td) (hbase : attributeBase o "values" X.env (eval o X.env) = eval o X.env := by rfl) (hline : (apos.endLine == mpos.line) = true := by rfl)
    (hse : starEach [Expr.Call (.Attribute o "values" apos) [] [] mpos] X.env = [(false, eval (Expr.Call (.Attribute o "values" apos) [] [] mpos) X.env)] := by rfl) :
    PE X (.Call (.Name "tuple" p) [.Call (.Attribute o "values" apos) [] [] mpos] [] pos) (tTupVals td) := by
  refine ⟨fun pins s σ H Q I h => ?_⟩
  have hse2 : starEach [Expr.Call (.Attribute o "values" apos) [] [] mpos] X.env = (false, eval (Expr.Call (.Attribute o "values" apos) [] [] mpos) X.env) :: starEach [] X.env := hse
  refine Call_ (ld_blt I hg hm boot_tuple (PyProof.Rows.callWith_type1 (args_cons (wpAny_Call_method0_late hbase hline (thn (hd.run pins s σ H _ I h) fun v s1 ⟨x, H1, I1, r1, a, kvs, ex, ha, q⟩ => ?_)) hse2) hse2 rfl))
  subst ex
  obtain rfl : v = Value.ref a := r1
  obtain ⟨z, hsys, vs, rel, dof⟩ := dk_of I1.hok ha
  obtain ⟨ep, dat⟩ := dof.dictAt
  have dat' := dat
  obtain ⟨ob, es, ho, ex, hdat, hko, hpr, hnd⟩ := dat'
  refine ⟨"dict", "dict.values", F.plainAttrs_dict, F.slot_dict_values, F.type_dict_values, ⟨ob, ho, ex.1⟩, fun b e => ?_, Calls.callWith_builtin rfl (PySem.evalArgs_none ?_)⟩
  · cases e
    exact ⟨ob, ho, ex.2.1⟩
  refine call_meetsIn F.slot_dict_values ⟨ob, ho, ex.1⟩ F.entry_dict_values (F.args_dict_values_1 _) (meets_dict_values (mixKind X.prog X.w) a hsys) ⟨⟨vs, dof⟩, ?_⟩
  have k1 : ∀ b u, s1.heap.get? b = some u → (s1.heap.push { cls := .type "dict_values", data := .fields #[.ref a] }).get? b = some u := fun b u e => Heap.get?_push_of_some _ e
  have dat1 : (s1.heap.push { cls := .type "dict_values", data := .fields #[.ref a] }).DictAt (mixKind X.prog X.w) a vs ep := dat.keep k1
  refine args_nil ?_
  have hl : kvs.length = vs.length := Paired.length rel
  have I2 : Inv X pins σ H1 { s1 with heap := s1.heap.push { cls := .type "dict_values", data := .fields #[.ref a] } } := I1.kept (t' := s1.toks) k1
  refine call_tuple_kdl (kdl_values (knd := mixKind X.prog X.w) (d := a) (r := s1.heap.objs.size) (kvs := vs) (ep := ep)) (I.ok.hd hc) ⟨⟨_, Heap.get?_push_size _ rfl, rfl, rfl⟩, dat1⟩ (by rw [← hl]; exact z) fun h' tk acc hk hacc => ?_
  have I3 : Inv X pins σ H1 { s1 with heap := h', toks := tk } := I2.kept (t' := tk) hk
  refine ⟨.ref h'.objs.size, upd H1 h'.objs.size (.tup (kvs.map (·.2))), I3.laid (t' := tk) (fun b o e => Heap.get?_push_of_some _ e) (Nat.le_refl _) (show ObjOk X.prog X.w _ _ _ (.tup (kvs.map (·.2))) from ⟨by rw [List.length_map]; exact z, acc.toList, ?_, by rw [Array.toArray_toList]; exact IsTup.new _ _⟩), rfl, q _ (I3.hok.fresh (Nat.le_refl _))⟩
  have el : acc.toList.length = acc.size := by simp
  refine vals_of_at (by rw [List.length_map, el, hacc.1, hl]) fun j x w h1 h2 => ?_
  obtain ⟨k, hky⟩ := hacc.2 j w (by rw [← Array.getElem?_toList]; exact h2)
  obtain ⟨y, h3, h4⟩ := KV.at' rel hky
  rw [List.getElem?_map, h3] at h1
  cases h1
  exact h4
end
end L2

/-! ### enumerate over a tuple (the hand layer has it over a list) -/
namespace PySem
open Sem (wp)
open AutoSeq1 (wpAny_loadPart')
theorem new_enumT (t : Addr) (its : Array Value) (n : Nat) (dc : Option Addr) (sl : Array (Option Value)) :
    Meets (Builtin.«enumerate.__new__» ⟨[.type "enumerate", .ref t], []⟩) (fun _ R s => s.heap.get? t = some { cls := .type "tuple", dict := dc, data := .seq its n, slots := sl } ∧
      R (.ok (.ret (.ref (s.heap.push { cls := .type "tuple_iterator", data := .fields #[.ref t, .int 0 0] }).objs.size)))
        { s with heap := (s.heap.push { cls := .type "tuple_iterator", data := .fields #[.ref t, .int 0 0] }).push { cls := .type "enumerate", data := .fields #[.none, .bool false, .ref s.heap.objs.size, rawInt 0, .none, .none] } }) :=
  .of_wp fun prog w A R s both => by
    obtain ⟨hp, g, d, tk, os⟩ := s
    obtain ⟨ht, both⟩ := both
    have below := sub_enumerate
    have tup : Heap.IsTuple (Shared.heap ⟨hp, g, d, tk, os⟩) t its := ⟨_, ht, rfl, n, rfl⟩
    wp_walk using wpAny_loadPart' ht
    refine wpAny_stack_any fun _ => wpAny_pure ?_
    split
    · rename_i c _ _ _ _ _
      cases (c == Value.type "enumerate")
      · wp_walk using wpAny_loadPart' ht, wpAny_pyIter_tuple tup
        exact ⟨_, rfl, both⟩
      · wp_walk using wpAny_loadPart' ht, wpAny_pyIter_tuple tup
        exact ⟨_, rfl, both⟩
    · wp_walk using wpAny_loadPart' ht, wpAny_pyIter_tuple tup
      exact ⟨_, rfl, both⟩
section
variable {prog : Program} {w : World} {A : Around} {E : Value → Shared → Prop} {s : Shared}
theorem call_enumT {t : Addr} {its : Array Value} {Q : Value → Shared → Prop} (ht : s.heap.IsTuple t its)
    (q : ∀ h', IsEnum h' (s.heap.objs.size + 1) s.heap.objs.size 0 .none → h'.IsTupleIter s.heap.objs.size t 0 →
      (∀ b o, s.heap.get? b = some o → h'.get? b = some o) → Q (.ref (s.heap.objs.size + 1)) { s with heap := h' }) :
    wpAny (model prog w) A (call (.type "enumerate") [.ref t]) Q E s := by
  obtain ⟨⟨c, dc, da, sl⟩, ht, ec, n, ed⟩ := ht
  obtain rfl : c = .type "tuple" := ec
  obtain rfl : da = .seq its n := ed
  refine callType_new F.called_enumerate (by decide) (F.typeCall_enumerate_1 _) (F.newCall_enumerate_1 _) (fun ob => F.args_object_init_2 ob _) F.entry_enumerate_new (new_enumT t its n dc sl) ⟨ht, ?_⟩
  have sz : (s.heap.push { cls := .type "tuple_iterator", data := .fields #[.ref t, .int 0 0] }).objs.size = s.heap.objs.size + 1 := Heap.size_push ..
  show _ ∧ _
  rw [sz]
  have en : IsEnum ((s.heap.push { cls := .type "tuple_iterator", data := .fields #[.ref t, .int 0 0] }).push { cls := .type "enumerate", data := .fields #[.none, .bool false, .ref s.heap.objs.size, rawInt 0, .none, .none] })
      (s.heap.objs.size + 1) s.heap.objs.size 0 .none := by
    have z := Heap.get?_push_size (s.heap.push { cls := .type "tuple_iterator", data := .fields #[.ref t, .int 0 0] }) (o := { cls := .type "enumerate", data := .fields #[.none, .bool false, .ref s.heap.objs.size, rawInt 0, .none, .none] }) rfl
    rw [sz] at z
    exact z
  exact ⟨⟨_, en, rfl⟩, q _ en ⟨_, Heap.get?_push_of_some _ (Heap.get?_push_size _ rfl), rfl, rfl⟩ fun b o x => Heap.get?_push_of_some _ (Heap.get?_push_of_some _ x)⟩
end
end PySem
namespace L2
open PySem PySem.Spec PyProof.Rows
/-- the tuple at a, each item in a new pair behind its index -/
def IteT (K : PySem.W.Frag) (a : Addr) : It :=
  ⟨fun i H => ∃ (ys : List V) (y : V), SqT K H a ys ∧ ys[i]? = some y, fun i H v H' => ∃ p y, v = .ref p ∧ H p = none ∧ H' = upd H p (.tup [.int (i : Nat), y]) ∧ ∀ ys, SqT K H a ys → ys[i]? = some y,
    fun i H => ∃ ys : List V, SqT K H a ys ∧ ys.length = i⟩
theorem turn_enumT {P : Program} {w : World} {K : PySem.W.Frag} {elts : List Expr} {kk : Nat} {tp : Pos} (a e it : Addr) :
    Turn P w K (.Tuple elts kk tp) (IteT K a) [e, it] e (fun i h => (∃ old, IsEnum h e it ((i : Nat) : Int) old) ∧ h.IsTupleIter it a i ∧ (e ≠ it ∧ a ≠ it ∧ a ≠ e)) where
  mem := by simp
  obj := fun i h st b hb => by
    obtain ⟨⟨old, he⟩, ⟨o, ho, _, dd⟩, _⟩ := st
    rcases (show b = e ∨ b = it by simpa using hb) with rfl | rfl
    · exact ⟨_, he, fun v z => nomatch z⟩
    · exact ⟨o, ho, fun v z => by rw [dd] at z; exact nomatch z⟩
  keep := fun i h h' st k => by
    obtain ⟨⟨old, he⟩, ⟨o, ho, r⟩, ne⟩ := st
    exact ⟨⟨old, k e (by simp) _ he⟩, ⟨o, k it (by simp) _ ho, r⟩, ne⟩
  item := by
    intro X hP hw hK hc i pins s σ H E I hf st hg
    subst hP hw hK
    obtain ⟨⟨old, he⟩, hit, ne, nai, nae⟩ := st
    obtain ⟨ys, y, hq, hy⟩ := hg
    obtain ⟨its, rv, p, hz⟩ := I.tuple hq
    obtain ⟨u, hu, ru⟩ := rv.get hy
    have szE : e < s.heap.objs.size := Heap.lt_size he
    have szI : it < s.heap.objs.size := by
      obtain ⟨_, z, _⟩ := hit
      exact Heap.lt_size z
    have small : ∀ b ∈ [e, it], b < s.heap.objs.size := fun b hb => by
      rcases (show b = e ∨ b = it by simpa using hb) with rfl | rfl <;> assumption
    have D := Draws.tuple (prog := X.prog) (w := X.w) (A := X.A.in1) (I.ok.hd hc) it a nai its.toArray
    have hlt : i < its.toArray.size := by
      have := (List.getElem?_eq_some_iff.mp hu).1
      simpa using this
    refine wpAny_pyNext_enum_itemD D he ⟨hit, p⟩ hlt ne (by simp only [List.mem_cons, List.not_mem_nil, or_false, not_or]; exact ⟨ne, Ne.symm nae⟩) fun x h' tk hx ho st2 hT hsz hk => ?_
    obtain ⟨hit2, _⟩ := st2
    have ex : x = u := by
      have h2 : its.toArray[i]? = some u := by simpa using hu
      rw [h2] at hx
      exact (Option.some.inj hx).symm
    subst ex
    refine ⟨_, rfl, wpAny_letOwnedTupleGo_enum (s := { s with heap := h', toks := tk + 1 }) ho fun h'' he' sb => ?_⟩
    have hT2 : h''.get? s.heap.objs.size = some { cls := .type "tuple", data := .seq #[.int i tk, x] } := (sb.2 _ (Nat.ne_of_gt szE)).trans hT
    have okN : ObjOk X.prog X.w (upd H s.heap.objs.size (.tup [.int (i : Nat), y])) h'' s.heap.objs.size (.tup [.int (i : Nat), y]) :=
      ⟨by show 2 ≤ sizeLine; decide, [.int i tk, x], .cons ⟨_, rfl⟩ (.cons ru .nil), ⟨_, hT2, rfl, _, rfl⟩⟩
    have J : Inv X pins σ (upd H s.heap.objs.size (.tup [.int (i : Nat), y])) { s with heap := h'', toks := tk + 1 } :=
      I.turnedNew (ch := [e, it]) (fun b ob hb z => (sb.2 b (fun y => hb (by simp [y]))).trans (hk b ob (fun y => hb (by simp [y])) (fun y => hb (by simp [y])) z)) hf (Nat.le_refl _) okN
    refine ⟨.ref s.heap.objs.size, _, J, rfl, ⟨_, y, rfl, I.hok.fresh (Nat.le_refl _), rfl, fun zs hs => by rw [I.tuple_inj hs hq]; exact hy⟩, ⟨⟨x, ?_⟩, ?_, ne, nai, nae⟩, fun b hb => ?_⟩
    · rw [show ((i + 1 : Nat) : Int) = (i : Int) + 1 by omega]
      exact he'
    · obtain ⟨o, ho2, r⟩ := hit2
      exact ⟨o, (sb.2 it (Ne.symm ne)).trans ho2, r⟩
    · rw [upd_ne (Nat.ne_of_lt (small b hb))]
      exact (hf b hb).1
  done := by
    intro X hP hw hK hc i pins s σ H E I hf st hg
    subst hP hw hK
    obtain ⟨⟨old, he⟩, hit, ne, nai, nae⟩ := st
    obtain ⟨ys, hq, hle⟩ := hg
    obtain ⟨its, rv, p, hz⟩ := I.tuple hq
    have len : its.toArray.size = i := by
      have := rv.length
      simp
      omega
    obtain ⟨g0, g1, _, g3, g4, g5⟩ := hf it (by simp)
    rw [← len] at hit
    have D := Draws.tuple (prog := X.prog) (w := X.w) (A := X.A.in1) (I.ok.hd hc) it a nai its.toArray
    exact wpAny_pyNext_enum_endD D he ⟨hit, p⟩ fun h' eb => ⟨rfl, I.turned (t' := s.toks) (fun b o hb z => eb b o hb z) g0 g1 g3 g4 g5⟩
  self := fun A i s Q E st h => by
    obtain ⟨⟨_, he⟩, _⟩ := st
    exact wpAny_pyIter_enum he h
def iEnumT (K : PySem.W.Frag) (ta : TA) : TI := fun σ H R => ta σ H fun vs H1 => ∃ a ys, vs = [.ref a] ∧ SqT K H1 a ys ∧ R (IteT K a) H1
theorem pi_enumT {X : Cx} {e : Expr} {ta : TA} {p pos tp : Pos} {elts : List Expr} {kk : Nat} (hg : Gl X "enumerate") (hm : X.mg "enumerate" = none) (ha : PA X [e] ta) (hs : starEach [e] X.env = [(false, eval e X.env)] := by rfl) :
    PI X (.Tuple elts kk tp) (.Call (.Name "enumerate" p) [e] [] pos) (iEnumT X.K ta) := by
  refine ⟨fun pins s σ H R I h => Call_ (ld_blt I hg hm boot_enumerate (PyProof.Rows.callWith_type1 (thn (ha.run pos pins s σ H _ I h) fun us s1 ⟨vs, H1, I1, r1, q1⟩ => ?_) hs rfl))⟩
  obtain ⟨a, ys, rfl, hq, q⟩ := q1
  cases r1 with
  | cons r rr =>
    cases rr
    cases r
    obtain ⟨its, rv, p', hz⟩ := I1.tuple hq
    have hp' : s1.heap.IsTuple a its.toArray := p'
    have old : a < s1.heap.objs.size := by
      obtain ⟨o, ho, _⟩ := hp'
      exact Heap.lt_size ho
    refine call_enumT hp' fun h' he hit hk => wpAny_pyIter_enum he ?_
    refine ⟨s1.heap.objs.size + 1, [s1.heap.objs.size + 1, s1.heap.objs.size], _, _, H1, rfl, I1.kept (t' := s1.toks) hk, turn_enumT a (s1.heap.objs.size + 1) s1.heap.objs.size,
      ⟨⟨.none, he⟩, hit, Nat.succ_ne_self _, Nat.ne_of_lt old, Nat.ne_of_lt (Nat.lt_succ_of_lt old)⟩, fun b hb => ?_, q⟩
    have hle : s1.heap.objs.size ≤ b := by
      rcases (show b = s1.heap.objs.size + 1 ∨ b = s1.heap.objs.size by simpa using hb) with rfl | rfl
      · exact Nat.le_succ _
      · exact Nat.le_refl _
    exact I1.fpOk hle (I1.hok.fresh hle)
theorem walk_enumT {K : PySem.W.Frag} {a : Addr} {xs : List V} : Walk (IteT K a) xs.length (fun H => SqT K H a xs) (YPair (fun i => some (.int (i : Nat))) (fun i => xs[i]?)) :=
  ⟨fun i H hi h => ⟨xs, _, h, List.getElem?_eq_getElem hi⟩, fun H h => ⟨xs, h, rfl⟩, fun i H v H' hi h y => by
    obtain ⟨p, z, rfl, np, rfl, hz⟩ := y
    exact ⟨p, _, z, rfl, np, rfl, rfl, hz xs h⟩⟩
end L2

/-! ### max and min of a tuple of ints -/
namespace L2
open PySem PySem.Spec PyProof.Rows
theorem readsAll_ints {h : Heap} : ∀ {ns : List Int} {its : List Value}, Vals (ns.map V.int) its → ReadsAll h its (ns.map PyData.int) []
  | [], _, .nil => .nil
  | n :: ns, _, .cons r t => by
    obtain ⟨k, rfl⟩ := r
    exact .cons (.int n k) (readsAll_ints t)
theorem alikeAll_ints (ns : List Int) : PySem.W.AlikeAll (ns.map PyData.int) := by
  refine ⟨fun x hx y hy => ?_, fun x hx => ?_⟩
  · obtain ⟨a, _, rfl⟩ := List.mem_map.mp hx
    obtain ⟨b, _, rfl⟩ := List.mem_map.mp hy
    simp [PySem.W.alike]
  · obtain ⟨a, _, rfl⟩ := List.mem_map.mp hx
    exact fun z => nomatch z
theorem depthAll_ints : ∀ ns : List Int, PyData.depthAll (ns.map PyData.int) = 0
  | [] => by simp [PyData.depthAll]
  | _ :: ns => by simp [PyData.depthAll, PyData.depth, depthAll_ints ns]
theorem foldl_max (x : Int) : ∀ xs : List Int, xs.foldl max x ∈ x :: xs ∧ ∀ y ∈ x :: xs, y ≤ xs.foldl max x := by
  intro xs
  induction xs generalizing x with
  | nil => exact ⟨List.mem_cons_self, fun y hy => by rw [List.mem_singleton.mp hy]; exact Int.le_refl _⟩
  | cons a xs ih =>
    obtain ⟨h1, h2⟩ := ih (max x a)
    rw [List.foldl_cons]
    have h3 := h2 _ List.mem_cons_self
    refine ⟨?_, fun y hy => ?_⟩
    · rcases List.mem_cons.mp h1 with e | e
      · rw [e]
        by_cases c : x ≤ a
        · rw [show max x a = a by omega]
          exact List.mem_cons_of_mem _ List.mem_cons_self
        · rw [show max x a = x by omega]
          exact List.mem_cons_self
      · exact List.mem_cons_of_mem _ (List.mem_cons_of_mem _ e)
    · rcases List.mem_cons.mp hy with rfl | hy
      · omega
      · rcases List.mem_cons.mp hy with rfl | hy
        · omega
        · exact h2 y (List.mem_cons_of_mem _ hy)
theorem foldl_min (x : Int) : ∀ xs : List Int, xs.foldl min x ∈ x :: xs ∧ ∀ y ∈ x :: xs, xs.foldl min x ≤ y := by
  intro xs
  induction xs generalizing x with
  | nil => exact ⟨List.mem_cons_self, fun y hy => by rw [List.mem_singleton.mp hy]; exact Int.le_refl _⟩
  | cons a xs ih =>
    obtain ⟨h1, h2⟩ := ih (min x a)
    rw [List.foldl_cons]
    have h3 := h2 _ List.mem_cons_self
    refine ⟨?_, fun y hy => ?_⟩
    · rcases List.mem_cons.mp h1 with e | e
      · rw [e]
        by_cases c : x ≤ a
        · rw [show min x a = x by omega]
          exact List.mem_cons_self
        · rw [show min x a = a by omega]
          exact List.mem_cons_of_mem _ List.mem_cons_self
      · exact List.mem_cons_of_mem _ (List.mem_cons_of_mem _ e)
    · rcases List.mem_cons.mp hy with rfl | hy
      · omega
      · rcases List.mem_cons.mp hy with rfl | hy
        · omega
        · exact h2 y (List.mem_cons_of_mem _ hy)
def rMaxTI (K : PySem.W.Frag) : List V → Hp → VK → Prop := fun vs H Q => ∃ (a : Addr) (ns : List Int), vs = [V.ref a] ∧ SqT K H a (ns.map V.int) ∧ 0 < ns.length ∧ ∀ m, m ∈ ns → (∀ y, y ∈ ns → y ≤ m) → Q (.int m) H
def rMinTI (K : PySem.W.Frag) : List V → Hp → VK → Prop := fun vs H Q => ∃ (a : Addr) (ns : List Int), vs = [V.ref a] ∧ SqT K H a (ns.map V.int) ∧ 0 < ns.length ∧ ∀ m, m ∈ ns → (∀ y, y ∈ ns → m ≤ y) → Q (.int m) H
section
variable {X : Cx}
theorem cr_maxTI (hc : X.calm = true) (hu : X.A.units + 64 < cLine) : CallR X (.builtin "max") (rMaxTI X.K) := by
  intro pins s σ H vs us Q I r h
  obtain ⟨a, ns, rfl, hs, hne, q⟩ := h
  obtain ⟨its, rv, hl, _⟩ := I.tuple hs
  rw [Vals.ref1 r]
  cases ns with
  | nil => exact absurd hne (Nat.lt_irrefl 0)
  | cons x xs =>
    have hr : ReadsAll s.heap its.toArray.toList (PyData.int x :: xs.map PyData.int) [] := readsAll_ints rv
    refine PySem.W.max_tuple_data (I.ok.hd hc) hl hr (alikeAll_ints (x :: xs)) (by rw [show PyData.int x :: xs.map PyData.int = (x :: xs).map PyData.int from rfl, depthAll_ints]; omega) fun i v h' tk bs _ hv hk => ?_
    rw [PySem.W.maxD_ints] at hv
    obtain ⟨m1, m2⟩ := foldl_max x xs
    cases hv
    exact ⟨.int _, H, I.kept hk, ⟨_, rfl⟩, q _ m1 m2⟩
theorem cr_minTI (hc : X.calm = true) (hu : X.A.units + 64 < cLine) : CallR X (.builtin "min") (rMinTI X.K) := by
  intro pins s σ H vs us Q I r h
  obtain ⟨a, ns, rfl, hs, hne, q⟩ := h
  obtain ⟨its, rv, hl, _⟩ := I.tuple hs
  rw [Vals.ref1 r]
  cases ns with
  | nil => exact absurd hne (Nat.lt_irrefl 0)
  | cons x xs =>
    have hr : ReadsAll s.heap its.toArray.toList (PyData.int x :: xs.map PyData.int) [] := readsAll_ints rv
    refine PySem.W.min_tuple_data (I.ok.hd hc) hl hr (alikeAll_ints (x :: xs)) (by rw [show PyData.int x :: xs.map PyData.int = (x :: xs).map PyData.int from rfl, depthAll_ints]; omega) fun i v h' tk bs _ hv hk => ?_
    rw [PySem.W.minD_ints] at hv
    obtain ⟨m1, m2⟩ := foldl_min x xs
    cases hv
    exact ⟨.int _, H, I.kept hk, ⟨_, rfl⟩, q _ m1 m2⟩
end
end L2

/-! ### str(data), and calls of defs that show data, where nothing is being shown -/
namespace L2
open PySem PySem.Spec PyProof.Rows
def rStrD (K : PySem.W.Frag) : List V → Hp → VK → Prop := fun xs H Q => ∃ a d, xs = [.ref a] ∧ Dp K H (.ref a) d ∧ SeqAt.shaped d = true ∧ d.showable = true ∧ wt d ≤ sizeLine ∧ Q (.str d.shown) H
theorem cr_strD {X : Cx} {K : PySem.W.Frag} (hK : X.K = K) (hg : X.A.guards = some []) (hu : X.A.units + 67 < cLine) : CallR X (.type "str") (rStrD K) := by
  subst hK
  intro pins s σ H vs us Q I r h
  obtain ⟨a, d, rfl, hd, hs, hw, hz, q⟩ := h
  cases r with
  | cons rv rn =>
    rename_i v us'
    cases rn
    have hs' : (d.canLay0 && decide (d.depth ≤ 64)) = true := hs
    rw [Bool.and_eq_true] at hs'
    have nd := PyData.hasDict_of_canLay d hs'.1
    have dep : d.depth ≤ 64 := of_decide_eq_true hs'.2
    have sz := Nat.le_trans (shown_wt d hw nd) hz
    obtain ⟨as, rd⟩ := Dp.reads I d (.ref a) v hd rv
    cases rv
    exact str_of_reads rd hw (PyData.noDict_hsm nd) hg (by omega) (fun _ _ e => e) (fun h' u tk hk => ⟨.str _, H, I.kept (t' := tk) hk, ⟨u, rfl⟩, q⟩) sz
section
variable {X : Cx} {k : Nat} {f : Addr} {fd : FuncData} {ps : List Str} {sp : Sp} {ds : List Value} {dvs : List V}
theorem run_fnG {pins : List (Addr × Obj)} {σ : St} {H : Hp} {s : Shared} {Q : VK} {us : List Value} {vs : List V} (hgu : X.A.guards = some []) (F : FnG X.prog X.w X.K X.mg X.base k f fd ps sp) (hr : Room k X.A) (hb : Binds X.K fd ps ds) (hd : Vals dvs ds)
    (I : Inv X pins σ H s) (r : Vals vs us) (h : sp (vs ++ dvs) H Q E0) : wpAny (model X.prog X.w) X.A (call (.ref f) us) (EP X pins σ Q) X.xe s := by
  have r2 : Vals (vs ++ dvs) (us ++ ds) := r.append hd
  have hl : (us ++ ds).length = ps.length := by rw [← r2.length]; exact F.len _ _ _ _ h
  refine wpAny_call (codeAny_mono (F.run X.A X.stack s H ⟨us, []⟩ (us ++ ds) (vs ++ dvs) Q E0 hgu hr I.env0 (hb s us I.kIn hl) r2 h) fun r s' hq => ?_)
  cases r with
  | error e => exact pass0 pins σ H s e s' I hq
  | ok fl =>
    cases fl with
    | ret u => exact I.after hq
    | next => exact False.elim hq
    | brk => exact False.elim hq
    | cont => exact False.elim hq
theorem pe_callG {x : Str} {e : Expr} {es : List Expr} {p pos : Pos} {t : TA} (hgu : X.A.guards = some []) (F : FnG X.prog X.w X.K X.mg X.base k f fd ps sp) (hr : Room k X.A) (hg : Gl X x) (hm : X.mg x = some (.ref f)) (hk : PySem.W.keepIn X.K (.ref f) = true) (hb : Binds X.K fd ps ds) (hd : Vals dvs ds)
    (ha : PA X (e :: es) t) (hdb : (x == ("__debug__" : Str)) = false := by decide) (he : starEach (e :: es) X.env = (false, eval e X.env) :: starEach es X.env := by rfl) (hpl : (backTo pos (starEach es X.env)).any (·.1) = false := by rfl) :
    PE X (.Call (.Name x p) (e :: es) [] pos) (tCall sp dvs E0 t) := by
  refine ⟨fun pins s σ H Q I h => ?_⟩
  refine wpAny_Call_Name_kw (ld_glob I hg hm ?_ hdb)
  refine PySem.W.callWith_K (h₀ := X.base) I.ok.mod.kin hk (thn (ha.run pos pins s σ H _ I h) fun us s1 ⟨vs, H1, I1, r, q⟩ => ⟨I1.kIn, ?_⟩) he hpl
  exact run_fnG hgu F hr hb hd I1 r q
end
end L2

/-! ### fe(e, ..), fe an expression that gives one of several defs -/
namespace L2
open PySem PySem.Spec PyProof.Rows
structure HeldX (P : Program) (w : World) (K : PySem.W.Frag) (mg : Str → Option Value) (base : Heap) (CX : CXT) (k : Nat) (f : Addr) (sp : Sp) : Prop where
  ex : ∃ (fd : FuncData) (ps : List Str), FnOk P w K mg base CX k f fd ps sp ∧ PySem.W.keepIn K (.ref f) = true ∧ Binds K fd ps []
def tCallE (S : Addr → Option Sp) (E : St → XK) (tf : TE) (t : TA) : TE := fun σ H Q => tf σ H fun y H1 => ∃ f sp, y = V.ref f ∧ S f = some sp ∧ t σ H1 fun vs H2 => sp vs H2 Q (E σ)
section
variable {X : Cx} {CX : CXT} {k : Nat} {E : St → XK} {p pos : Pos} {fe e : Expr} {es : List Expr} {tf : TE} {t : TA}
theorem pe_callE {S : Addr → Option Sp} (hf : PE X fe tf) (A : ∀ f sp, S f = some sp → HeldX X.prog X.w X.K X.mg X.base CX k f sp) (hr : Room k X.A) (hx : ∀ σ, PassesAt CX X σ (E σ)) (ha : PA X (e :: es) t)
    (ht : eval (.Call fe (e :: es) [] pos) X.env = (do callWith pos (← eval fe X.env) [] (backTo pos (starEach (e :: es) X.env)) (backToKw pos (keywordEach [] X.env))) := by rfl)
    (he : starEach (e :: es) X.env = (false, eval e X.env) :: starEach es X.env := by rfl) (hpl : (backTo pos (starEach es X.env)).any (·.1) = false := by rfl) : PE X (.Call fe (e :: es) [] pos) (tCallE S E tf t) := by
  refine ⟨fun pins s σ H Q I h => ?_⟩
  refine Call_ (thn (hf.run pins s σ H _ I h) fun u s1 ⟨y, H1, I1, ry, f, sp, ey, hS, q⟩ => ?_) ht
  subst ey
  obtain rfl : u = Value.ref f := ry
  obtain ⟨fd, ps, F, hk, hb⟩ := (A f sp hS).ex
  refine PySem.W.callWith_K (h₀ := X.base) I.ok.mod.kin hk (thn (ha.run pos pins s1 σ H1 _ I1 q) fun us s2 ⟨vs, H2, I2, r, q2⟩ => ⟨I2.kIn, ?_⟩) he hpl
  exact run_fnS F hr hb (hx σ) I2 r q2
end
end L2

/-! ### any(list of integers); divmod by a divisor that may be negative -/
namespace L2
open PySem PySem.Spec PyProof.Rows
theorem vals_intsA : ∀ {zs : List Int} {its : List Value}, Vals (zs.map V.int) its → ∀ (i : Nat) (v : Value), its[i]? = some v → ∃ (z : Int) (t : Tok), zs[i]? = some z ∧ v = Value.int z t
  | [], _, h, i, v, e => by
    cases h
    exact nomatch e
  | z :: zs, _, h, i, v, e => by
    cases h with
    | cons r rs =>
      obtain ⟨t, rfl⟩ := r
      cases i with
      | zero => exact ⟨z, t, rfl, (Option.some.inj e).symm⟩
      | succ i => exact vals_intsA rs i v e
def rAnyI (K : PySem.W.Frag) : List V → Hp → VK → Prop := fun vs H Q => ∃ (a : Addr) (zs : List Int), vs = [V.ref a] ∧ SqL K H a (zs.map V.int) ∧ Q (.bl (zs.any (fun z => z != 0))) H
theorem cr_anyI {X : Cx} (hc : X.calm = true) : CallR X (.builtin "any") (rAnyI X.K) := by
  intro pins s σ H vs us Q I r h
  obtain ⟨a, zs, rfl, hs, q⟩ := h
  obtain ⟨its, rv, hl, _⟩ := I.list hs
  rw [Vals.ref1 r]
  have tr : TruthOf X.prog X.w X.A.in1 (fun i v => its.toArray[i]? = some v) (fun i => zs.getD i 0 != 0) := fun i v s Q E hv hq => by
    have hv' : its[i]? = some v := by simpa using hv
    obtain ⟨z, t, hz, rfl⟩ := vals_intsA rv i v hv'
    have e : zs.getD i 0 = z := by rw [List.getD_eq_getElem?_getD, hz]; rfl
    rw [← e]
    exact PySem.P.truthy_int hq
  refine call_any_walk (iter_any hl.isList fun s₂ e2 st hne => ?_)
  subst e2
  refine ⟨_, _, _, _, _, _, _, rfl, Walks.list (A := X.A.in1) (I.ok.hd hc) _ a hne its.toArray, st, tr, fun h' tk hk => ?_⟩
  refine ⟨.bl _, H, I.kept fun b o eo => hk b o (fun mem => ?_) (Heap.get?_push_of_some _ eo), ?_, q⟩
  · rcases List.mem_cons.mp mem with e1 | mem
    · exact absurd (e1 ▸ Heap.lt_size eo) (Nat.lt_irrefl _)
    · exact nomatch mem
  · show Value.bool _ = Value.bool _
    have len : its.toArray.size = zs.length := by
      have := rv.length
      rw [List.length_map] at this
      simp [this]
    have e : ∀ l : List Int, (List.range l.length).any (fun i => l.getD i 0 != 0) = l.any (fun z => z != 0) := fun l => by
      induction l with
      | nil => rfl
      | cons z l ih =>
        rw [List.length_cons, List.range_succ_eq_map, List.any_cons, List.any_map, List.any_cons, ← ih]
        rfl
    rw [len, e]
theorem call_divmodN {X : Cx} : CallR X (.builtin "divmod") (fun xs H Q => ∃ i j, xs = [.int i, .int j] ∧ CDivN i j ∧ ∀ p, H p = none → Q (.ref p) (upd H p (.tup [.int (i.fdiv j), .int (i.fmod j)]))) := by
  intro pins s σ H xs us Q I r h
  obtain ⟨i, j, rfl, ⟨h1, h2⟩, q⟩ := h
  obtain ⟨u, w', rfl, ⟨t, rfl⟩, ⟨t', rfl⟩⟩ := vals2 r
  refine divmod_int h1 ?_ (.inl (PyProof.noPylong_small h2))
  have free : H s.heap.objs.size = none := I.hok.fresh (Nat.le_refl _)
  have laid := I.laid (t' := s.toks + 1 + 1) (o := .tup [.int (i.fdiv j), .int (i.fmod j)]) (a := s.heap.objs.size) (h' := s.heap.push { cls := .type "tuple", data := .seq #[.int (i.fdiv j) s.toks, .int (i.fmod j) (s.toks + 1)] }) (fun b o e => Heap.get?_push_of_some _ e) (Nat.le_refl _)
    ⟨by show 2 ≤ sizeLine; decide, [.int (i.fdiv j) s.toks, .int (i.fmod j) (s.toks + 1)], .cons ⟨_, rfl⟩ (.cons ⟨_, rfl⟩ .nil), ⟨_, Heap.get?_push_size s.heap rfl, rfl, 0, rfl⟩⟩
  exact ⟨.ref s.heap.objs.size, _, laid, rfl, q _ free⟩
end L2

/-! ### factorial, comb -/
namespace L2
open PySem PySem.Spec PyProof.Rows
def rFac : List V → Hp → VK → Prop := fun xs H Q => ∃ a : Int, xs = [.int a] ∧ 0 ≤ a ∧ a ≤ 20000 ∧ Q (.int ((Builtin.Math.factorialNat a.toNat : Nat) : Int)) H
theorem cr_fac {X : Cx} : CallR X (.builtin "math.factorial") rFac := by
  intro pins s σ H vs us Q I r h
  obtain ⟨a, rfl, h0, h1, q⟩ := h
  obtain ⟨w1, rfl, t, rfl⟩ := vals1 r
  exact PySem.W.mc_factorial h0 h1 fun _ => ⟨.int _, H, I.tok _, ⟨_, rfl⟩, q⟩
def rComb : List V → Hp → VK → Prop := fun xs H Q => ∃ a b : Int, xs = [.int a, .int b] ∧ 0 ≤ a ∧ 0 ≤ b ∧ a ≤ 18000 ∧ Q (.int (PySem.W.mcComb a b)) H
theorem cr_comb {X : Cx} : CallR X (.builtin "math.comb") rComb := by
  intro pins s σ H vs us Q I r h
  obtain ⟨a, b, rfl, h0, h1, h2, q⟩ := h
  obtain ⟨t, u, rfl⟩ := Vals.int2 r
  have big : (18000 : Int) < 2 ^ 64 := by decide
  exact PySem.W.mc_comb h0 h1 (by omega) (.inr h2) fun _ => ⟨.int _, H, I.tok _, ⟨_, rfl⟩, q⟩
end L2

/-! ### walks of comprehensions with two fors -/
namespace L2
open PySem PySem.Spec PyProof.Rows
theorem walkD_list {K : PySem.W.Frag} {a : Addr} {xs : List V} {H0 : Hp} {Qd : Hp → Prop} {body : V → Hp → (Hp → Prop) → Prop} (Pv : Nat → Hp → Prop) (h0 : Pv 0 H0) (hl : ∀ i H, Pv i H → SqL K H a xs)
    (step : ∀ i x H, xs[i]? = some x → Pv i H → body x H (Pv (i + 1))) (last : ∀ H, Pv xs.length H → Qd H) :
    ∃ W : Nat → Nat → Hp → Prop, (∃ m, W 0 m H0) ∧ ∀ i m H, W i m H → ((Itl K a).stop i H ∧ Qd H) ∨ ((Itl K a).go i H ∧ ∃ Nx : Hp → Prop, (∀ H', Nx H' → ∃ m', m' < m ∧ W (i + 1) m' H') ∧ ∀ x H', (Itl K a).yld i H x H' → body x H' Nx) := by
  refine ⟨fun i m H => i + m = xs.length ∧ Pv i H, ⟨xs.length, Nat.zero_add _, h0⟩, fun i m H ⟨em, p⟩ => ?_⟩
  have sq := hl i H p
  cases m with
  | zero =>
    have e : i = xs.length := em
    exact .inl ⟨⟨xs, sq, by omega⟩, last H (e ▸ p)⟩
  | succ m =>
    have lt : i < xs.length := by omega
    refine .inr ⟨⟨xs, xs[i], sq, List.getElem?_eq_getElem lt⟩, Pv (i + 1), fun H' p' => ⟨m, Nat.lt_succ_self m, by omega, p'⟩, fun x H' ⟨eH, y⟩ => ?_⟩
    rw [eH]
    exact step i x H (y xs sq) p
theorem walkD_range {lo : Int} {n : Nat} {H0 : Hp} {Qd : Hp → Prop} {body : V → Hp → (Hp → Prop) → Prop} (Pv : Nat → Hp → Prop) (h0 : Pv 0 H0)
    (step : ∀ i H, i < n → Pv i H → body (.int (lo + (i : Nat))) H (Pv (i + 1))) (last : ∀ H, Pv n H → Qd H) :
    ∃ W : Nat → Nat → Hp → Prop, (∃ m, W 0 m H0) ∧ ∀ i m H, W i m H → ((Itr lo n).stop i H ∧ Qd H) ∨ ((Itr lo n).go i H ∧ ∃ Nx : Hp → Prop, (∀ H', Nx H' → ∃ m', m' < m ∧ W (i + 1) m' H') ∧ ∀ x H', (Itr lo n).yld i H x H' → body x H' Nx) := by
  refine ⟨fun i m H => i + m = n ∧ Pv i H, ⟨n, Nat.zero_add _, h0⟩, fun i m H ⟨em, p⟩ => ?_⟩
  cases m with
  | zero =>
    have e : i = n := em
    exact .inl ⟨Nat.le_of_eq e.symm, last H (e ▸ p)⟩
  | succ m =>
    have lt : i < n := by omega
    refine .inr ⟨lt, Pv (i + 1), fun H' p' => ⟨m, Nat.lt_succ_self m, by omega, p'⟩, fun x H' ⟨eH, y⟩ => ?_⟩
    rw [eH, y]
    exact step i H lt p
end L2

/-! ### max(list of ints, default=d) -/
namespace L2
open PySem PySem.Spec PyProof.Rows
def rMaxDef (K : PySem.W.Frag) : List V → List V → Hp → VK → Prop := fun xs zs H Q => ∃ (a : Addr) (ns : List Int) (d : Int), xs = [.ref a] ∧ zs = [.int d] ∧ SqL K H a (ns.map V.int) ∧ (ns = [] → Q (.int d) H) ∧ ∀ m, m ∈ ns → (∀ y, y ∈ ns → y ≤ m) → Q (.int m) H
theorem cr_maxDef {X : Cx} {K : PySem.W.Frag} (hK : X.K = K) (hc : X.calm = true) (hu : X.A.units + 64 < cLine) : CallRK X (.builtin "max") [Str.ofString "default"] (rMaxDef K) := by
  subst hK
  intro pins s σ H vs zs us ws Q I r rz h
  obtain ⟨a, ns, d, rfl, rfl, hs, q0, q1⟩ := h
  obtain rfl := Vals.ref1 r
  obtain ⟨w1, rfl, t, rfl⟩ := vals1 rz
  obtain ⟨its, rv, hl, _⟩ := I.list hs
  have hr : ReadsAll s.heap its.toArray.toList (ns.map PyData.int) [] := readsAll_ints rv
  refine PySem.W.max_list_default (I.ok.hd hc) hl.isList hr (alikeAll_ints ns) (by rw [depthAll_ints]; omega) (fun e h' tk hk => ⟨.int d, H, I.kept hk, ⟨_, rfl⟩, q0 (List.map_eq_nil_iff.mp e)⟩) fun y ys i v h' tk bs e _ hv hk => ?_
  cases ns with
  | nil => exact nomatch e
  | cons x xs =>
    obtain ⟨rfl, rfl⟩ := List.cons.inj e
    rw [PySem.W.maxD_ints] at hv
    obtain ⟨m1, m2⟩ := foldl_max x xs
    cases hv
    exact ⟨.int _, H, I.kept hk, ⟨_, rfl⟩, q1 _ m1 m2⟩
end L2

/-! ### a plain list comprehension over a list within an except suite; defs whose errors have no context -/
namespace HotX
open PySem PySem.Spec PyProof.Rows
variable {prog : Program} {w : World} {A : Around} {E : Value → Shared → Prop} {s : Shared}
theorem list_over_hot {it l x1 : Addr} {i : Nat} {items : Array Value} {Q : Option Value → Shared → Prop} (hot : HotAt A x1 s.heap) (hit : s.heap.IsListIter it l i) (hl : s.heap.IsList l items) (hx : items[i]? = none)
    (hQ : ∀ h', (∀ b o, b ≠ it → s.heap.get? b = some o → h'.get? b = some o) → Q none { s with heap := h' }) : wpAny (model prog w) A (pyNext (.ref it)) Q E s := by
  obtain ⟨oi, gi, ci, di⟩ := id hit
  obtain ⟨ol, gl, _, nl, dl⟩ := hl
  obtain ⟨hh, o1, vs1, g1, d1, c1⟩ := hot
  have ne1 : x1 ≠ it := fun z => by
    rw [z, gi] at g1
    obtain rfl := Option.some.inj g1
    rw [di] at d1
    obtain rfl := Data.fields.inj d1
    exact nomatch (show (some (Value.none) : Option Value) = _ from c1.symm)
  unfold pyNext
  apply wpAny_bind
  apply wpAny_attempt
  apply wpAny_callSpecial?_slot (name := Str.ofString "__next__") hit.typeIs slot_listiter_next
  apply wpAny_call_entry slot_listiter_next hit.typeIs entry_listiter_next ?_ (args_listiter_next _)
  show wpAny _ _ (field (Value.ref it) 0 >>= _) _ _ s
  apply wpAny_bind
  apply wpAny_field gi di (x := Value.ref l) rfl
  show wpAny _ _ (if (Value.ref l == Value.none) = true then _ else _) _ _ s
  rw [if_neg (by exact Bool.false_ne_true)]
  show wpAny _ _ (field (Value.ref it) 1 >>= _) _ _ s
  apply wpAny_bind
  apply wpAny_field gi di (x := Value.int i 0) rfl
  show wpAny _ _ (seqItems? (Value.ref l) >>= _) _ _ s
  apply wpAny_bind
  apply wpAny_seqItems gl dl
  simp only [Int.toNat_natCast, hx]
  apply wpAny_bind
  apply wpAny_rule
  apply wpAny_bind
  apply wpAny_setField gi di (by simp)
  show wpAny _ _ (newExc (Value.type "StopIteration") [] >>= _) _ _ _
  apply wpAny_bind
  simp only [newExc, newTuple]
  apply wpAny_bind
  apply wpAny_newObj_type (hd := by size_fits)
  apply wpAny_bind
  apply wpAny_of_eq (a := Value.none) (by first | rfl | exact rfl)
  apply wpAny_newObj_type (hd := by size_fits)
  have k1 : (s.heap.update it (Obj.mapFields fun x => x.setIfInBounds 0 Value.none)).get? x1 = some o1 := (Heap.get?_update_other _ _ ne1.symm).trans g1
  have k2 : ∀ o o' : Obj, (((s.heap.update it (Obj.mapFields fun x => x.setIfInBounds 0 Value.none)).push o).push o').get? x1 = some o1 := fun o o' => Heap.get?_push_of_some _ (Heap.get?_push_of_some _ k1)
  have k3 := fun o o' => Heap.lt_size (k2 o o')
  refine raiseNew_hot (A := A.in1) (x1 := x1) ⟨hh, o1, vs1, k2 _ _, d1, c1⟩ (Nat.ne_of_lt (Heap.lt_size (Heap.get?_push_of_some _ k1))) (Heap.get?_push_size _ rfl) rfl (by first | (simp; done) | (simp; omega)) ?_
  apply wpAny_bind
  refine wpAny_isInstance (b := true) (T := "StopIteration") ⟨_, Heap.get?_update_self _ (Heap.get?_push_size _ rfl) rfl, rfl⟩ isSubtype_stop (wpAny_pure (hQ _ fun b o nb e => ?_))
  have e1 := (Heap.get?_update_other s.heap (Obj.mapFields fun x => x.setIfInBounds 0 Value.none) (Ne.symm nb)).trans e
  have e2 := Heap.get?_push_of_some { cls := Value.type "tuple", data := Data.seq #[] } e1
  rw [Heap.get?_update_other _ _ (Nat.ne_of_gt (Heap.lt_size e2))]
  exact Heap.get?_push_of_some _ e2
end HotX
namespace L2
open PySem PySem.Spec PyProof.Rows HotX
/-- the except suite's own exception stands, its context is None -/
def HotS (X : Cx) : Prop := ∃ p : Addr × Obj, p ∈ X.pn ∧ X.A.handled = some (.ref p.1) ∧ ∃ vs : Array Value, p.2.data = .fields vs ∧ vs[2]? = some .none
/-- [e for y in xs], e without effect: f of each item -/
def tLcMap (K : PySem.W.Frag) (tl : TE) (g : TG) (te : TE) (vs : List Nat) : TE := fun σ H Q => tl σ H fun x H1 => ∃ (a : Addr) (xs : List V) (f : V → V), x = .ref a ∧ SqL K H1 a xs ∧ xs.length < sizeLine ∧
  (∀ y ∈ xs, ∀ H2 : Hp, g y (wipe σ vs) H2 fun σ2 H3 => wipe σ2 vs = wipe σ vs ∧ te σ2 H3 fun z H4 => z = f y ∧ H4 = H2) ∧ ∀ D, H1 D = none → Q (.ref D) (upd H1 D (.lst (xs.map f)))
theorem pe_lcMap {X : Cx} {elt tg iter : Expr} {scope : Scope} {own : List (Str × Nat)} {pos : Pos} {tl : TE} {g : TG} {te : TE} (hotX : HotS X) (nd : X.N.Nodup) (walked : PE X iter tl) (okb : BlkOk X.N X.env.scope scope own)
    (pgAll : ∀ (s : Shared) (H : Hp) (C : Addr) (cl : List (Str × Addr)) (fp : List Addr), PG (X.blk s H scope (compEnvC scope cl C X.env) fp) tg g)
    (peAll : ∀ (s : Shared) (H : Hp) (C : Addr) (cl : List (Str × Addr)) (fp : List Addr), PE (X.blk s H scope (compEnvC scope cl C X.env) fp) elt te)
    (fold : ∀ x, foldedSetIterable iter X.env x = pure x := by intro _; rfl) : PE X (.ListComp elt [⟨tg, iter, [], 0⟩] scope pos) (tLcMap X.K tl g te (own.map (·.2))) := by
  refine ⟨fun pins s σ H Q I h => ?_⟩
  have frees : ∀ y ∈ scope.names, y.2 = .free → ∃ c, X.env.cells.lookup y.1 = some c := fun y hy e => (okb.free y hy e).elim (fun k => I.ok.has _ (.inl k)) (fun k => I.ok.has _ (.inr k))
  rw [eval_ListComp]
  refine wpAny_comprehension_free (use := none) rfl fold (closure_ok frees) okb.kind (fun y hy e => by rw [okb.uniq y hy, e]) (thn (walked.run pins s σ H _ I h) fun itv s1 gone => ?_)
  obtain ⟨x, H1, I1, rx, a, xs, f, rfl, sq, big, each, q⟩ := gone
  cases rx
  obtain ⟨its, vals, plain, _⟩ := I1.list sq
  have lenV : xs.length = its.length := vals.length
  refine wpAny_pyIter_list plain.isList ?_
  -- the iterator
  have I2 : Inv X pins σ H1 { s1 with heap := s1.heap.push { cls := .type "list_iterator", data := .fields #[.ref a, .int 0 0] } } := I1.kept (t' := s1.toks) fun b o e => Heap.get?_push_of_some _ e
  have fpI := I1.fpOk (H' := H1) (Nat.le_refl s1.heap.objs.size) (I1.hok.fresh (Nat.le_refl _))
  have itr : (s1.heap.push { cls := .type "list_iterator", data := .fields #[.ref a, .int 0 0] }).IsListIter s1.heap.objs.size a 0 := ⟨_, Heap.get?_push_size _ rfl, rfl, rfl⟩
  have plain2 : PlainL (s1.heap.push { cls := .type "list_iterator", data := .fields #[.ref a, .int 0 0] }) a its.toArray := by
    obtain ⟨o, n, e, r⟩ := plain
    exact ⟨o, n, Heap.get?_push_of_some _ e, r⟩
  have lt2 : s1.heap.objs.size < (s1.heap.push { cls := .type "list_iterator", data := .fields #[.ref a, .int 0 0] }).objs.size := by
    rw [Heap.size_push]
    exact Nat.lt_succ_self _
  generalize eit : s1.heap.objs.size = it at itr lt2 fpI ⊢
  generalize es2 : ({ s1 with heap := s1.heap.push { cls := .type "list_iterator", data := .fields #[.ref a, .int 0 0] } } : Shared) = s2 at I2 ⊢
  have itr : s2.heap.IsListIter it a 0 := by rw [← es2]; exact itr
  have plain2 : PlainL s2.heap a its.toArray := by rw [← es2]; exact plain2
  have lt2 : it < s2.heap.objs.size := by rw [← es2]; exact lt2
  clear es2 eit
  -- the new list
  apply wpAny_newObj_type (T := "list") (hd := by show 0 ≤ sizeLine; exact Nat.zero_le _)
  apply newEnv_comp
  have nD : H1 s2.heap.objs.size = none := I2.hok.fresh (Nat.le_refl _)
  have ne0 : it ≠ s2.heap.objs.size := Nat.ne_of_lt lt2
  have I3 : Inv X pins σ (upd H1 s2.heap.objs.size (.lst [])) { s2 with heap := s2.heap.push { cls := .type "list", data := .seq ([] : List Value).toArray } } :=
    I2.laid (t' := s2.toks) (fun b o e => Heap.get?_push_of_some _ e) (Nat.le_refl _) ⟨Nat.zero_le _, [], 0, .nil, Heap.get?_push_size _ rfl⟩
  have itr3 : (s2.heap.push { cls := .type "list", data := .seq ([] : List Value).toArray }).IsListIter it a 0 := by
    obtain ⟨o, e, c, d⟩ := itr
    exact ⟨o, Heap.get?_push_of_some _ e, c, d⟩
  have lt3 : it < (s2.heap.push { cls := .type "list", data := .seq ([] : List Value).toArray }).objs.size := by
    rw [Heap.size_push]
    exact Nat.lt_succ_of_lt lt2
  generalize s2.heap.objs.size = D at nD ne0 I3 ⊢
  have fp3 : FpOk X pins (upd H1 D (.lst [])) it := ⟨by rw [upd_ne ne0]; exact fpI.1, fpI.2⟩
  generalize es3 : ({ s2 with heap := s2.heap.push { cls := .type "list", data := .seq ([] : List Value).toArray } } : Shared) = s3 at I3 ⊢
  have itr3 : s3.heap.IsListIter it a 0 := by rw [← es3]; exact itr3
  have lt3 : it < s3.heap.objs.size := by rw [← es3]; exact lt3
  have ed : s3.drawn = s2.drawn ∧ s3.gens = s2.gens ∧ s3.toks = s2.toks ∧ s3.os = s2.os := by rw [← es3]; exact ⟨rfl, rfl, rfl, rfl⟩
  have frs3 : ∀ b ∈ [it], FpOk X pins (upd H1 D (.lst [])) b ∧ b < s3.heap.objs.size := fun b hb => by rw [List.mem_singleton.mp hb]; exact ⟨fp3, lt3⟩
  have I4 := block_start I3 okb nd frs3
  obtain ⟨hp, hpn, hah, hvs, hfd, hnn⟩ := hotX
  have pin3 := I3.pin hp (List.mem_append_left _ hpn)
  have nostk : hp.1 ∉ frs X.stack := fun hm => (List.mem_cons.mp (I3.stkSub hp.1 hm)).elim pin3.2.2.1 pin3.2.2.2.1
  have noit : hp.1 ≠ it := fp3.2.2.2.2.2 hp (List.mem_append_left _ hpn)
  clear es3
  have pg0 := pgAll s3 (upd H1 D (.lst [])) s3.heap.objs.size (cellsFrom (s3.heap.objs.size + 1) scope.names (cloFrom X.env.cells scope.names [])) [it]
  have pe0 := peAll s3 (upd H1 D (.lst [])) s3.heap.objs.size (cellsFrom (s3.heap.objs.size + 1) scope.names (cloFrom X.env.cells scope.names [])) [it]
  let ce := compEnvC scope (cellsFrom (s3.heap.objs.size + 1) scope.names (cloFrom X.env.cells scope.names [])) s3.heap.objs.size X.env
  have locs : ce.locals = s3.heap.objs.size := rfl
  have noC : upd H1 D (.lst []) s3.heap.objs.size = none := I3.hok.fresh (Nat.le_refl _)
  have fpC := I3.fpOk (H' := upd H1 D (.lst [])) (Nat.le_refl s3.heap.objs.size) noC
  have neDC : s3.heap.objs.size ≠ D := fun z => by
    rw [z, upd_same] at noC
    exact nomatch noC
  have noC1 : H1 s3.heap.objs.size = none := by
    rw [upd_ne neDC] at noC
    exact noC
  show codeAny _ _ (.compStart (.ListComp elt [⟨tg, iter, [], 0⟩] scope pos) 0 (.ref it) (.ref D) ce) (compPost (model X.prog X.w) X.A X.xe none (EP X pins σ Q) (.ref D) s3.heap.objs.size) _
  have itr4 : (pushCells (s3.heap.push { cls := .type "dict", data := .dict #[] }) scope.names).IsListIter it a 0 := by
    obtain ⟨o, e, c, d⟩ := itr3
    exact ⟨o, pushCells_keeps _ _ _ _ (Heap.get?_push_of_some _ e), c, d⟩
  generalize es4 : ({ s3 with heap := pushCells (s3.heap.push { cls := .type "dict", data := .dict #[] }) scope.names } : Shared) = s4 at I4 ⊢
  have itr4 : s4.heap.IsListIter it a 0 := by rw [← es4]; exact itr4
  clear es4
  have twice : ∀ (o o' : HO), upd (upd H1 D o) D o' = upd H1 D o' := fun o o' => by
    funext b
    by_cases e : b = D
    · rw [e, upd_same, upd_same]
    · rw [upd_ne e, upd_ne e, upd_ne e]
  have oldKept : ∀ o : HO, Same H1 (upd H1 D o) := fun o b u e => by rw [upd_ne (ne_of_none e nD)]; exact e
  have itFree : ∀ o : HO, upd H1 D o it = none := fun o => by rw [upd_ne ne0]; exact fpI.1
  have hotAt : ∀ {σ5 : St} {H5 : Hp} {s5 : Shared}, Inv (X.blk s3 (upd H1 D (.lst [])) scope ce [it]) [] σ5 H5 s5 → HotAt X.A hp.1 s5.heap := fun I5 =>
    ⟨hah, hp.2, hvs, I5.base.keep hp.1 hp.2 pin3.1 pin3.2.1 nostk (fun hm => noit (List.mem_singleton.mp hm)), hfd, hnn⟩
  have fixed : ∀ {σ5 : St} {H5 : Hp} {s5 : Shared}, Inv (X.blk s3 (upd H1 D (.lst [])) scope ce [it]) [] σ5 H5 s5 → H5 it = none → FpOk (X.blk s3 (upd H1 D (.lst [])) scope ce [it]) [] H5 it := fun I5 hn =>
    ⟨hn, (I5.ok.exf it List.mem_cons_self).1, I5.ok.exfs it List.mem_cons_self, .inl List.mem_cons_self, fun x c e => (I5.ok.exf it List.mem_cons_self).2 x c e, fun p hp => nomatch hp⟩
  have main : codeAny (model X.prog X.w) X.A (.compLoop (.ListComp elt [⟨tg, iter, [], 0⟩] scope pos) 0 (.ref it) (.ref D) ce) (compPost (model X.prog X.w) X.A X.xe none (EP X pins σ Q) (.ref D) s3.heap.objs.size) s4 := by
    refine compLoop_any (fun n s' => ∃ i, n = xs.length - i ∧ i ≤ xs.length ∧ Inv (X.blk s3 (upd H1 D (.lst [])) scope ce [it]) [] (wipe σ (own.map (·.2))) (upd H1 D (.lst ((xs.take i).map f))) s' ∧ s'.heap.IsListIter it a i) ?_ xs.length ⟨0, rfl, Nat.zero_le _, I4, itr4⟩
    rintro n s5 ⟨i, rfl, hi, I5, it5⟩
    obtain ⟨its5, vals5, plain5, _⟩ := I5.list (show SqL X.K _ a xs from (oldKept _).seq sq)
    obtain ⟨f0, f1, f2, f3, f4, f5⟩ := fixed I5 (itFree _)
    have len5 : xs.length = its5.length := vals5.length
    by_cases c : i < xs.length
    · obtain ⟨u, hu, ru⟩ := vals5.get (List.getElem?_eq_getElem c)
      refine wpAny_pyNext_list_item it5 plain5.isList (x := u) (by simpa using hu) fun h' next sb => ?_
      have I6 := I5.turned (h' := h') (t' := s5.toks) (fun b o hb e => (sb.2 b hb).trans e) f0 f1 f3 f4 f5
      obtain ⟨oi, ei, ci, di⟩ := next
      refine go_of (s := { s5 with heap := h' }) ei ci di (by decide) ?_
      have I6p := I6.pinned (fp := [it]) (fun b hb => by rw [List.mem_singleton.mp hb]; exact fixed I6 (itFree _)) (fun b hb => by rw [List.mem_singleton.mp hb]; exact ⟨oi, ei, fun v z => by rw [di] at z; cases z⟩)
      refine thnF (pg0.run _ _ _ _ xs[i] u _ I6p ru (each _ (List.getElem_mem c) _)) fun _ s7 ⟨σ7, H7, I7, hw, q7⟩ => ?_
      refine wpAny_tests_nil ?_
      rw [if_pos rfl]
      refine thnF (pe0.run _ s7 σ7 H7 _ I7 q7) fun z s8 ⟨yv, H8, I8, r8, ez, eH⟩ => ?_
      subst ez eH
      refine app_ok (X := X.blk s3 (upd H1 D (.lst [])) scope ce [it]) I8 upd_same (by rw [List.length_map, List.length_take]; omega) r8 fun s9 I9 => ?_
      have pinned := (I9.pin (it, oi) (List.mem_append_right _ (List.mem_append_right _ (mem_pinsAt List.mem_cons_self ei)))).1
      refine ⟨xs.length - (i + 1), by omega, i + 1, rfl, c, ?_, ⟨oi, pinned, ci, di⟩⟩
      have I10 := (I9.unpinned (pins := [])).weak (σ' := wipe σ (own.map (·.2))) (by rw [← hw, wipe_length]) fun j v e => by
        rw [← hw] at e
        exact (wipe_some e).1
      rw [twice, show (xs.take i).map f ++ [f xs[i]] = (xs.take (i + 1)).map f by rw [List.take_succ, List.getElem?_eq_getElem c, List.map_append]; rfl] at I10
      exact I10
    · obtain rfl : i = xs.length := by omega
      refine list_over_hot (hotAt I5) it5 plain5.isList (by simp; omega) fun h' kept => ?_
      have I6 := I5.turned (h' := h') (t' := s5.toks) kept f0 f1 f3 f4 f5
      have I7 : Inv X pins σ _ _ := I3.call' (ch := [it]) I6.os I6.base I6.hok I6.bare fun b hb => by
        have z := (frs3 b hb).1
        exact ⟨z.2.2.2.1, z.2.1, z.2.2.2.2.1, z.2.2.2.2.2⟩
      obtain ⟨m, hns, _⟩ := I6.loc
      obtain ⟨_, c1, c2, c3, c4, c5⟩ := fpC
      refine ⟨m, hns, fun h2 sb => ⟨.ref D, _, I7.turned (t' := s5.toks) (fun b o hb e => (sb.2 b hb).trans e) ?_ c1 c3 c4 c5, rfl, ?_⟩⟩
      · rw [upd_ne neDC]
        exact noC1
      · rw [List.take_length]
        exact q D nD
  exact codeAny_compStart_list main (wpAny_pyIter_listiter itr4 main)
end L2
namespace L2
open PySem PySem.Spec PyProof.Rows
/-- a def whose errors have no context -/
theorem Fun.okXN {P : Program} {w : World} {K : PySem.W.Frag} {mg : Str → Option Value} {base : Heap} {x qual : Str} {st : Stmt} {f : Addr} {fd : FuncData} {N ps : List Str} {k : Nat} {sp : Sp} (F : Fun K x qual st f fd) (S : FnScope N ps (defScope st))
    (len : ∀ vs H Q E, sp vs H Q E → vs.length = ps.length)
    (body : ∀ (cdv : Value) (A : Around) (outer : List Env) (s : Shared) (H : Hp) (vs : List V) (Q : VK) (E : XK), Room k (A.deeper (envOfC qual (defScope st) s.heap.objs.size f cdv)) → sp vs H Q E →
      ∃ t, PSs (cxOf (L2N.CX P w) P w K mg base N qual (defScope st) f cdv A outer s H E) (defBody st) t ∧ t { nx := fun _ H' => Q .non H', rt := Q } (start N vs) H) : FnOk P w K mg base (L2N.CX P w) (k + 1) f fd ps sp := by
  obtain ⟨_, _, _, _, _, _, _, _, _, rfl, known, coded⟩ := F.ex
  exact fn_of known coded S len fun A outer s H vs Q E room hsp => body _ A outer s H vs Q E room hsp
/-- what an except suite knows -/
theorem hotS_of {X : Cx} {a : Addr} {oe : Obj} {pn : List (Addr × Obj)} {cls : Value} {d : Option Addr} (hz : L2N.Zn cls d oe) (hf : ∃ vs, oe.data = .fields vs) : HotS (X.suite a ((a, oe) :: pn)) := by
  obtain ⟨vs, e⟩ := hf
  exact ⟨(a, oe), List.mem_cons_self, rfl, vs, e, hz.2.2 vs e⟩
end L2
namespace L2
open PySem PySem.Spec PyProof.Rows
theorem passLN {X : Cx} : Passes (L2N.CX X.prog X.w) X E0 := fun _ _ _ _ _ _ _ h => by
  obtain ⟨_, _, _, _, _, _, _, _, _, _, _, _, no⟩ := h
  exact no.elim
theorem takes0N {X : Cx} : L2N.Takes X (fun _ _ _ _ => False) := fun _ _ h => by
  obtain ⟨_, _, _, _, _, _, _, _, _, _, _, _, _, _, _, _, no⟩ := h
  exact no.elim
end L2
namespace L2
open PySem PySem.Spec PyProof.Rows
theorem pe_lcMapK {X : Cx} {K : PySem.W.Frag} {elt tg iter : Expr} {scope : Scope} {own : List (Str × Nat)} {pos : Pos} {tl : TE} {g : TG} {te : TE} (hK : X.K = K) (nd : X.N.Nodup) (walked : PE X iter tl) (okb : BlkOk X.N X.env.scope scope own)
    (pgAll : ∀ (s : Shared) (H : Hp) (C : Addr) (cl : List (Str × Addr)) (fp : List Addr), PG (X.blk s H scope (compEnvC scope cl C X.env) fp) tg g)
    (peAll : ∀ (s : Shared) (H : Hp) (C : Addr) (cl : List (Str × Addr)) (fp : List Addr), PE (X.blk s H scope (compEnvC scope cl C X.env) fp) elt te) (hotX : HotS X)
    (fold : ∀ x, foldedSetIterable iter X.env x = pure x := by intro _; rfl) : PE X (.ListComp elt [⟨tg, iter, [], 0⟩] scope pos) (tLcMap K tl g te (own.map (·.2))) := by
  subst hK
  exact pe_lcMap hotX nd walked okb pgAll peAll fold
end L2

/-! ### the difference of two sets of small ints -/
namespace L2
open PySem PySem.Spec PyProof.Rows
namespace SD
/-! tables -/
def it (m : Nat) : Nat → Nat → Nat
  | i, 0 => i
  | i, k + 1 => it m ((i * 5 + 1) % (m + 1)) k
def roundB (m : Nat) : Bool := (List.range (m + 1)).all fun i => (List.range (m + 1)).all fun j => (List.range (m + 1)).any fun k => it m i k == j
theorem round_ok {m : Nat} (hm : m = 7 ∨ m = 15 ∨ m = 31 ∨ m = 63) : roundB m = true := by
  rcases hm with rfl | rfl | rfl | rfl <;> decide +kernel
theorem it_all {m i j : Nat} (hm : m = 7 ∨ m = 15 ∨ m = 31 ∨ m = 63) (hi : i ≤ m) (hj : j ≤ m) : ∃ k, k ≤ m ∧ it m i k = j := by
  have h1 := List.all_eq_true.mp (round_ok hm) i (List.mem_range.mpr (by omega))
  have h2 := List.all_eq_true.mp h1 j (List.mem_range.mpr (by omega))
  obtain ⟨k, hk, e⟩ := List.any_eq_true.mp h2
  have := List.mem_range.mp hk
  exact ⟨k, by omega, beq_iff_eq.mp e⟩
def occ (owner : Array (Option Nat)) (j : Nat) : Bool := (owner.getD j (some 0)).isNone
theorem free_cons (m : Nat) (owner : Array (Option Nat)) (f i b : Nat) : SetTable.layClean.free m owner (f + 1) i b = match (List.range (SetTable.runEnd m i + 1 - i)).find? (fun k => occ owner (i + k)) with
    | some k => some (i + k)
    | none => SetTable.layClean.free m owner f (SetTable.leap m i b).1 (SetTable.leap m i b).2 := by
  rw [SetTable.layClean.free]
  rfl
theorem free_is (m : Nat) (owner : Array (Option Nat)) : ∀ (f i b j : Nat), SetTable.layClean.free m owner f i b = some j → occ owner j = true
  | 0, i, b, j, h => by rw [SetTable.layClean.free] at h; cases h
  | f + 1, i, b, j, h => by
    rw [free_cons] at h
    cases e : (List.range (SetTable.runEnd m i + 1 - i)).find? (fun k => occ owner (i + k)) with
    | some k =>
      rw [e] at h
      have := List.find?_some e
      obtain rfl := Option.some.inj h
      exact this
    | none =>
      rw [e] at h
      exact free_is m owner f _ _ j h
theorem free_no (m : Nat) (owner : Array (Option Nat)) : ∀ (f i b : Nat), b < 32 → SetTable.layClean.free m owner f i b = none → ∀ k, k < f → occ owner (it m i k) = false
  | 0, i, b, hb, h, k, hk => absurd hk (Nat.not_lt_zero k)
  | f + 1, i, b, hb, h, k, hk => by
    rw [free_cons] at h
    cases e : (List.range (SetTable.runEnd m i + 1 - i)).find? (fun k => occ owner (i + k)) with
    | some k => rw [e] at h; cases h
    | none =>
      rw [e] at h
      have hz : b / 32 = 0 := Nat.div_eq_of_lt hb
      have el : SetTable.leap m i b = ((i * 5 + 1) % (m + 1), 0) := by
        unfold SetTable.leap
        rw [hz]
      cases k with
      | zero =>
        have := List.find?_eq_none.mp e 0 (List.mem_range.mpr (by unfold SetTable.runEnd; split <;> omega))
        rw [Nat.add_zero] at this
        show occ owner i = false
        exact Bool.not_eq_true _ ▸ this
      | succ k =>
        have h' : SetTable.layClean.free m owner f ((i * 5 + 1) % (m + 1)) 0 = none := by
          rw [el] at h
          exact h
        exact free_no m owner f _ 0 (by decide) h' k (by omega)
theorem set_perm {k : Nat} : ∀ (l : List (Option Nat)) (j : Nat), l[j]? = some none → ((l.set j (some k)).filterMap id).Perm (k :: l.filterMap id)
  | [], j, h => by cases h
  | x :: l, 0, h => by
    obtain rfl : x = none := Option.some.inj h
    exact List.Perm.refl _
  | x :: l, j + 1, h => by
    have ih := set_perm (k := k) l j h
    cases x with
    | none => exact ih
    | some y => exact (ih.cons y).trans (List.Perm.swap k y _)
structure Lay (m : Nat) (owner : Array (Option Nat)) (k : Nat) : Prop where
  sz : owner.size = m + 1
  pm : (owner.toList.filterMap id).Perm (List.range k)
theorem all_some : ∀ (l : List (Option Nat)), (∀ j, j < l.length → l[j]? ≠ some none) → (l.filterMap id).length = l.length
  | [], _ => rfl
  | none :: l, h => absurd rfl (h 0 (Nat.zero_lt_succ _))
  | some y :: l, h => congrArg Nat.succ (all_some l fun j hj => h (j + 1) (Nat.succ_lt_succ hj))
theorem occ_iff {owner : Array (Option Nat)} {j : Nat} : occ owner j = true ↔ owner.toList[j]? = some none := by
  unfold occ
  rw [Array.getElem?_toList, Array.getD_eq_getD_getElem?]
  cases e : owner[j]? with
  | none => simp
  | some x => cases x <;> simp
theorem bits_small {h : Int} (h0 : 0 ≤ h) (h1 : h < 32) : SetTable.bits h < 32 := by
  unfold SetTable.bits
  omega
theorem lay_step {m k : Nat} {owner : Array (Option Nat)} {h : Int} (hm : m = 7 ∨ m = 15 ∨ m = 31 ∨ m = 63) (L : Lay m owner k) (hk : k ≤ m) (h0 : 0 ≤ h) (h1 : h < 32) :
    ∃ owner', stepF m (some (owner, k)) h = some (owner', k + 1) ∧ Lay m owner' (k + 1) := by
  cases e : SetTable.layClean.free m owner (SetTable.turns m) (SetTable.bits h % (m + 1)) (SetTable.bits h) with
  | none =>
    exfalso
    have no := free_no m owner _ _ _ (bits_small h0 h1) e
    have len : (owner.toList.filterMap id).length = owner.toList.length := all_some _ fun j hj z => by
      rw [Array.length_toList, L.sz] at hj
      obtain ⟨c, hc, ec⟩ := it_all hm (i := SetTable.bits h % (m + 1)) (j := j) (Nat.le_of_lt_succ (Nat.mod_lt _ (Nat.succ_pos m))) (by omega)
      have := no c (by unfold SetTable.turns; omega)
      rw [ec, occ_iff.mpr z] at this
      cases this
    rw [L.pm.length_eq, List.length_range, Array.length_toList, L.sz] at len
    omega
  | some j =>
    have hj := occ_iff.mp (free_is m owner _ _ _ _ e)
    refine ⟨owner.setIfInBounds j (some k), stepF_some e, by rw [Array.size_setIfInBounds]; exact L.sz, ?_⟩
    rw [Array.toList_setIfInBounds, List.range_succ]
    exact (set_perm _ _ hj).trans ((L.pm.cons k).trans (List.perm_append_singleton k _).symm)
theorem lay_fold {m : Nat} (hm : m = 7 ∨ m = 15 ∨ m = 31 ∨ m = 63) : ∀ (hs : List Int) (k : Nat) (owner : Array (Option Nat)), Lay m owner k → (∀ h ∈ hs, 0 ≤ h ∧ h < 32) → k + hs.length ≤ m + 1 →
    ∃ owner', hs.foldl (stepF m) (some (owner, k)) = some (owner', k + hs.length) ∧ Lay m owner' (k + hs.length)
  | [], k, owner, L, _, _ => ⟨owner, rfl, L⟩
  | h :: hs, k, owner, L, hb, hn => by
    rw [List.length_cons] at hn
    obtain ⟨o1, e1, L1⟩ := lay_step hm L (by omega) (hb h List.mem_cons_self).1 (hb h List.mem_cons_self).2
    obtain ⟨o2, e2, L2⟩ := lay_fold hm hs (k + 1) o1 L1 (fun x hx => hb x (List.mem_cons_of_mem _ hx)) (by omega)
    refine ⟨o2, ?_, ?_⟩
    · rw [List.foldl_cons, e1, e2, List.length_cons]
      congr 2
      omega
    · rw [List.length_cons, show k + (hs.length + 1) = k + 1 + hs.length by omega]
      exact L2
theorem fm_congr {α β : Type} {f g : α → Option β} : ∀ {l : List α}, (∀ x ∈ l, f x = g x) → l.filterMap f = l.filterMap g
  | [], _ => rfl
  | x :: l, h => by
    rw [List.filterMap_cons, List.filterMap_cons, h x List.mem_cons_self, fm_congr fun y hy => h y (List.mem_cons_of_mem _ hy)]
theorem live_snd (l : List (Option Nat)) : ((List.range l.length).filterMap fun j => (l.getD j none).map fun x => (j, x)).map (·.2) = l.filterMap id := by
  induction l with
  | nil => rfl
  | cons x l ih =>
    rw [List.length_cons, List.range_succ_eq_map, List.filterMap_cons, List.filterMap_map]
    have e : ((List.range l.length).filterMap ((fun j => ((x :: l).getD j none).map fun y => (j, y)) ∘ Nat.succ)).map (·.2) = l.filterMap id := by
      rw [← ih, List.map_filterMap, List.map_filterMap]
      refine fm_congr fun j _ => ?_
      show Option.map _ (Option.map _ ((x :: l).getD (j + 1) none)) = _
      rw [List.getD_cons_succ, Option.map_map, Option.map_map]
      rfl
    cases x with
    | none => exact e
    | some y =>
      show y :: _ = y :: _
      rw [e]
theorem laid_ok {m finger moves : Nat} {led plain : Bool} {hs : Array Int} (hm : m = 7 ∨ m = 15 ∨ m = 31 ∨ m = 63) (hb : ∀ h ∈ hs.toList, 0 ≤ h ∧ h < 32) (hn : hs.size ≤ m) :
    ∃ t order, SetTable.laid m finger moves led plain hs = some (t, order) ∧ order.toList.Perm (List.range hs.size) ∧ t.fits hs.size = true ∧ t.mask = m ∧ t.dummies = #[] := by
  have L0 : Lay m (Array.replicate (m + 1) none) 0 := ⟨Array.size_replicate, by
    rw [Array.toList_replicate]
    have : ∀ n, (List.replicate n (none : Option Nat)).filterMap id = [] := fun n => by
      induction n with
      | zero => rfl
      | succ n ih => rw [List.replicate_succ]; exact ih
    rw [this]
    exact .refl _⟩
  obtain ⟨owner, e, L⟩ := lay_fold hm hs.toList 0 _ L0 hb (by rw [Array.length_toList]; omega)
  rw [Nat.zero_add, Array.length_toList] at e L
  have ec : SetTable.layClean m hs = some owner := by
    rw [layClean_eq, e]
    rfl
  have eg : ∀ j, owner.getD j none = owner.toList.getD j none := fun j => by
    rw [Array.getD_eq_getD_getElem?, List.getD_eq_getElem?_getD, Array.getElem?_toList]
  have el : (List.range (m + 1)).filterMap (fun j => (owner.getD j none).map fun x => (j, x)) = (List.range owner.toList.length).filterMap fun j => (owner.toList.getD j none).map fun x => (j, x) := by
    rw [Array.length_toList, L.sz]
    exact fm_congr fun j _ => by rw [eg]
  have pm : (((List.range (m + 1)).filterMap fun j => (owner.getD j none).map fun x => (j, x)).map (·.2)).Perm (List.range hs.size) := by
    rw [el, live_snd]
    exact L.pm
  have lenl : ((List.range (m + 1)).filterMap fun j => (owner.getD j none).map fun x => (j, x)).length = hs.size := by
    have := pm.length_eq
    rw [List.length_map, List.length_range] at this
    exact this
  refine ⟨{ mask := m, place := (((List.range (m + 1)).filterMap fun j => (owner.getD j none).map fun x => (j, x)).map (·.1)).toArray, dummies := #[], finger, led, moves, plain }, (((List.range (m + 1)).filterMap fun j => (owner.getD j none).map fun x => (j, x)).map (·.2)).toArray, ?_, pm, ?_, rfl, rfl⟩
  · unfold SetTable.laid
    rw [ec]
    rfl
  · unfold SetTable.fits SetTable.fill
    dsimp only
    rw [List.size_toArray, List.length_map, lenl]
    simp [hn]
end SD
end L2

namespace L2
open PySem PySem.Spec PyProof.Rows
namespace SD
/-- a set of ints, as it stands -/
structure Is (h : Heap) (a : Addr) (es : Array (Int × Value)) (ep : Nat) (t : SetTable) : Prop where
  at' : ∃ o, h.get? a = some o ∧ o.ExactSet ∧ o.data = .set es ep t
  good : ∀ e ∈ es.toList, GoodE e
  nd : (es.toList.map keyOf).Nodup
  lt : es.size < scanBound
  fit : t.fits es.size = true
theorem Is.of {w : World} {h : Heap} {a : Addr} {S : Int → Bool} {n : Nat} (R : SetR w h a S n) :
    ∃ es ep t, Is h a es ep t ∧ (∀ k, S k = true ↔ k ∈ es.toList.map keyOf) ∧ es.size = n ∧ (w.params.followText "set-order" = true ∨ t.led = true) := by
  obtain ⟨o, es, ep, t, ho, hx, hd, g, nd, hm, hb, hf, hn, _, hl⟩ := R
  exact ⟨es, ep, t, ⟨⟨o, ho, hx, hd⟩, g, nd, hb, hf⟩, hm, hn, hl⟩
theorem Is.same {h h' : Heap} {a b : Addr} {es : Array (Int × Value)} {ep : Nat} {t : SetTable} (I : Is h a es ep t) (s : Heap.SameBut b h h') (ne : a ≠ b) : Is h' a es ep t := by
  obtain ⟨⟨o, ho, r⟩, g, nd, lt, f⟩ := I
  exact ⟨⟨o, by rw [s.2 a ne]; exact ho, r⟩, g, nd, lt, f⟩
theorem Is.keep {h h' : Heap} {a : Addr} {es : Array (Int × Value)} {ep : Nat} {t : SetTable} (I : Is h a es ep t) (k : ∀ o, h.get? a = some o → h'.get? a = some o) : Is h' a es ep t := by
  obtain ⟨⟨o, ho, r⟩, g, nd, lt, f⟩ := I
  exact ⟨⟨o, k o ho, r⟩, g, nd, lt, f⟩
theorem Is.type {s : Shared} {a : Addr} {es : Array (Int × Value)} {ep : Nat} {t : SetTable} (I : Is s.heap a es ep t) : s.TypeIs (.ref a) "set" := by
  obtain ⟨⟨o, ho, hx, _⟩, _⟩ := I
  exact ⟨o, ho, hx.1⟩
section
variable {P : Program} {w : World} {A : Around} {E : Value → Shared → Prop} {s : Shared} {a : Addr} {es : Array (Int × Value)} {ep : Nat} {t : SetTable}
theorem state (I : Is s.heap a es ep t) {Q : (Array (Int × Value) × Nat × SetTable) → Shared → Prop} (h : Q (es, ep, t) s) : wpAny (model P w) A (setState a) Q E s := by
  obtain ⟨⟨o, ho, _, hd⟩, _, _, _, f⟩ := I
  exact wpAny_setState_of ho hd f h
theorem epoch (I : Is s.heap a es ep t) {Q : Nat → Shared → Prop} (h : Q ep s) : wpAny (model P w) A (setEpoch a) Q E s := by
  obtain ⟨⟨o, ho, _, hd⟩, _, _, _, f⟩ := I
  exact wpAny_setEpoch_of ho hd f h
theorem entries (I : Is s.heap a es ep t) {Q : Array (Int × Value) → Shared → Prop} (h : Q es s) : wpAny (model P w) A (setEntries a) Q E s := by
  obtain ⟨⟨o, ho, _, hd⟩, _, _, _, f⟩ := I
  exact wpAny_setEntries_of ho hd f h
theorem size (I : Is s.heap a es ep t) {Q : Nat → Shared → Prop} (h : Q es.size s) : wpAny (model P w) A (Builtin.Frozenset.sizeOf a) Q E s := by
  unfold Builtin.Frozenset.sizeOf
  exact wpAny_bind (entries I (wpAny_pure h))
theorem anySet (I : Is s.heap a es ep t) {Q : Bool → Shared → Prop} (h : Q true s) : wpAny (model P w) A (Builtin.Frozenset.isAnySet (.ref a)) Q E s := by
  unfold Builtin.Frozenset.isAnySet
  have z := I.type
  have hs := sub_set_self
  obtain ⟨hp, g, d, tk, os⟩ := s
  refine wpAny_bind (m := isInstance (.ref a) (.type "set")) (wpAny_isInstance z hs ?_)
  exact wpAny_pure h
theorem base (I : Is s.heap a es ep t) {Q : Value → Shared → Prop} (h : Q (.type "set") s) : wpAny (model P w) A (Builtin.Frozenset.baseOf a) Q E s := by
  unfold Builtin.Frozenset.baseOf
  exact wpAny_bind (wpAny_isInstance I.type sub_set_self (wpAny_pure h))
theorem not_ref {e : Int × Value} (g : GoodE e) : ∀ b, e.2 ≠ .ref b := fun b z => by
  obtain ⟨k, tk, e1, _⟩ := g
  rw [e1] at z
  cases z

theorem quiet {l : List Addr} {Q : Bool → Shared → Prop} (hl : ∀ b ∈ l, ∃ es ep t, Is s.heap b es ep t) (h : Q true s) : wpAny (model P w) A (setsQuiet l) Q E s := by
  unfold setsQuiet
  refine wpAny_bind (wpAny_forIn_list _ (fun rest (x : Option Bool × Unit) s' => s' = s ∧ x.1 = none ∧ ∀ c ∈ rest, c ∈ l) _ (fun c rest x s1 hI => ?_) (fun x s1 hI => ?_) l (none, ()) ⟨rfl, rfl, fun c hc => hc⟩)
  · obtain ⟨rfl, hx, hc⟩ := hI
    obtain ⟨es, ep, t, I⟩ := hl c (hc c List.mem_cons_self)
    refine wpAny_bind (entries I ?_)
    refine wpAny_bind (wpAny_forIn_array' _ (fun rest (x : Option Bool × Unit) s' => s' = s1 ∧ x = (none, ()) ∧ ∀ e ∈ rest, GoodE e) _ (fun e rest x s2 hJ => ?_) (fun x s2 hJ => ?_) es (none, ()) ⟨rfl, rfl, I.good⟩)
    · obtain ⟨rfl, rfl, hg⟩ := hJ
      obtain ⟨k, tk, e1, _⟩ := hg e List.mem_cons_self
      obtain ⟨e0, e2⟩ := e
      dsimp only at e1
      subst e1
      exact wpAny_pure ⟨rfl, rfl, fun y hy => hg y (List.mem_cons_of_mem _ hy)⟩
    · obtain ⟨rfl, rfl, _⟩ := hJ
      exact wpAny_pure ⟨rfl, rfl, fun y hy => hc y (List.mem_cons_of_mem _ hy)⟩
  · obtain ⟨rfl, hx, _⟩ := hI
    obtain ⟨x1, x2⟩ := x
    dsimp only at hx
    subst hx
    exact wpAny_pure h
/-- the order in which a set is gone through: any -/
theorem walk0 (I : Is s.heap a es ep t) (hl : w.params.followText "set-order" = true ∨ t.led = true) (hp : w.params.followText "set-order" = true ∨ (t.plain = true ∨ es.size ≤ 1)) {Q : Array (Int × Value) → Shared → Prop}
    (h : ∀ es' : Array (Int × Value), es'.toList.Perm es.toList → Q es' s) : wpAny (model P w) A (setWalk a) Q E s := by
  unfold setWalk
  refine wpAny_bind (state I ?_)
  dsimp only
  refine wpAny_bind (wpAny_byText ?_)
  by_cases c : w.params.followText "set-order" = true
  · refine wp_if_pos c ?_
    exact wpAny_bind (wpAny_askSetting (wpAny_pure (h _ (pick_perm _ _))))
  · refine wp_if_neg c ?_
    try refine wpAny_bind (wpAny_pure ?_)
    have hl := hl.resolve_left c
    have hp := hp.resolve_left c
    refine wp_if_neg (by
      show ¬ ((!t.plain && decide (es.size > 1)) = true)
      rcases hp with z | z
      · rw [z]; exact Bool.false_ne_true
      · rw [decide_eq_false (by omega), Bool.and_false]; exact Bool.false_ne_true) ?_
    try refine wpAny_bind (wpAny_pure ?_)
    refine wpAny_bind (wpAny_of_eq (a := ()) ?_ ?_)
    · show (if (!t.led && decide (es.size > 1)) = true then unsupported "set:maker-not-led" else pure ()) = pure ()
      rw [hl]
      rfl
    · exact wpAny_pure (h _ (List.Perm.refl _))
theorem walkN (I : Is s.heap a es ep t) (hl : w.params.followText "set-order" = true ∨ t.led = true) {others : List Addr} (ho : ∀ b ∈ others, ∃ es ep t, Is s.heap b es ep t) {Q : Array (Int × Value) → Shared → Prop}
    (h : ∀ es' : Array (Int × Value), es'.toList.Perm es.toList → Q es' s) : wpAny (model P w) A (setWalkUnseen a others none) Q E s := by
  unfold setWalkUnseen
  refine wpAny_bind (state I ?_)
  dsimp only
  refine wpAny_bind (wpAny_byText ?_)
  by_cases c : (w.params.followText "set-order" || t.led && t.plain || decide (es.size ≤ 1)) = true
  · refine wp_if_pos c (walk0 I hl ?_ h)
    rw [Bool.or_eq_true, Bool.or_eq_true, Bool.and_eq_true, decide_eq_true_eq] at c
    rcases c with (z | z) | z
    · exact .inl z
    · exact .inr (.inl z.2)
    · exact .inr (.inr z)
  · refine wp_if_neg c ?_
    refine wpAny_bind (quiet (l := a :: others) (fun b hb => ?_) ?_)
    · rcases List.mem_cons.mp hb with rfl | hb
      · exact ⟨_, _, _, I⟩
      · exact ho b hb
    · refine wp_if_neg (by simp) ?_
      refine wpAny_bind (wpAny_rule ?_)
      exact wpAny_pure (h _ (List.Perm.refl _))
theorem walkF (I : Is s.heap a es ep t) (hl : w.params.followText "set-order" = true ∨ t.led = true) {others : List Addr} (ho : ∀ b ∈ others, ∃ es ep t, Is s.heap b es ep t) {r : Addr} {S : Int → Bool} {n : Nat} (R : SetR w s.heap r S n)
    {Q : Array (Int × Value) → Shared → Prop}
    (h : ∀ (es' : Array (Int × Value)) h', es'.toList.Perm es.toList → Heap.SameBut r s.heap h' → SetR w h' r S n → Q es' { s with heap := h' }) : wpAny (model P w) A (setWalkUnseen a others (some r)) Q E s := by
  unfold setWalkUnseen
  have h0 : ∀ es' : Array (Int × Value), es'.toList.Perm es.toList → Q es' s := fun es' p => h es' s.heap p (Heap.SameBut.refl r s.heap) R
  refine wpAny_bind (state I ?_)
  dsimp only
  refine wpAny_bind (wpAny_byText ?_)
  by_cases c : (w.params.followText "set-order" || t.led && t.plain || decide (es.size ≤ 1)) = true
  · refine wp_if_pos c (walk0 I hl ?_ h0)
    rw [Bool.or_eq_true, Bool.or_eq_true, Bool.and_eq_true, decide_eq_true_eq] at c
    rcases c with (z | z) | z
    · exact .inl z
    · exact .inr (.inl z.2)
    · exact .inr (.inr z)
  · refine wp_if_neg c ?_
    refine wpAny_bind (quiet (l := a :: others) (fun b hb => ?_) ?_)
    · rcases List.mem_cons.mp hb with rfl | hb
      · exact ⟨_, _, _, I⟩
      · exact ho b hb
    · refine wp_if_neg (by simp) ?_
      refine wpAny_bind (wpAny_rule ?_)
      try dsimp only
      obtain ⟨o, er, epr, tr, hor, hx, hd, g, nd, hm, hb, hf, hn, hr, hlr⟩ := R
      refine wpAny_bind (wpAny_setState_of hor hd hf ?_)
      dsimp only
      split
      · refine wpAny_bind (wpAny_storeSet_of hor hd ?_ (fits_of_scanBound hb))
        refine wpAny_pure (h _ _ (List.Perm.refl _) (Heap.SameBut.update s.heap r _) ⟨_, er, _, _, store_at hor hd, hx, rfl, g, nd, hm, hb, hf, hn, hr, ?_⟩)
        rcases hlr with z | z
        · exact .inl z
        · rcases hl with y | y
          · exact .inl y
          · exact .inr (by rw [z, y]; rfl)
      · exact wpAny_pure (h0 _ (List.Perm.refl _))
end
end SD
end L2

namespace L2
open PySem PySem.Spec PyProof.Rows
namespace SD
section
variable {P : Program} {w : World} {A : Around} {E : Value → Shared → Prop} {s : Shared} {a : Addr} {es : Array (Int × Value)} {ep : Nat} {t : SetTable}
theorem sizeM : ∀ n, n < 32 → 5 ≤ n → (SetTable.sizeAbove ((0 + n) * 2) - 1 = 15 ∨ SetTable.sizeAbove ((0 + n) * 2) - 1 = 31 ∨ SetTable.sizeAbove ((0 + n) * 2) - 1 = 63) ∧ n ≤ SetTable.sizeAbove ((0 + n) * 2) - 1 := by decide +kernel
/-- r, empty: room for n more -/
theorem room_at {r : Addr} {n ep0 : Nat} {led : Bool} (hn : n < 32) (ho : ∃ o, s.heap.get? r = some o ∧ o.ExactSet ∧ o.data = .set #[] ep0 (.fresh 0 0 led)) {Q : Unit → Shared → Prop}
    (h : ∀ h' ep' t', Heap.SameBut r s.heap h' → (∃ o, h'.get? r = some o ∧ o.ExactSet ∧ o.data = .set #[] ep' t') → t'.place = #[] → t'.dummies = #[] → (t'.mask = 7 ∨ t'.mask = 15 ∨ t'.mask = 31 ∨ t'.mask = 63) → n ≤ t'.mask → Q () { s with heap := h' }) :
    wpAny (model P w) A (setRoomFor r n) Q E s := by
  obtain ⟨o, ho, hx, hd⟩ := ho
  have hf : (SetTable.fresh 0 0 led).fits (#[] : Array (Int × Value)).size = true := rfl
  unfold setRoomFor
  refine wpAny_bind (wpAny_setState_of ho hd hf ?_)
  unfold SetTable.roomFor
  by_cases c : n ≤ 4
  · have e : ¬ ((SetTable.fresh 0 0 led).fill + n) * 5 ≥ (SetTable.fresh 0 0 led).mask * 3 := by
      show ¬ (0 + n) * 5 ≥ 7 * 3
      omega
    rw [if_neg e]
    exact wpAny_pure (h s.heap ep0 _ (Heap.SameBut.refl r s.heap) ⟨o, ho, hx, hd⟩ rfl rfl (.inl rfl) (by show n ≤ 7; omega))
  · have e : ((SetTable.fresh 0 0 led).fill + n) * 5 ≥ (SetTable.fresh 0 0 led).mask * 3 := by
      show (0 + n) * 5 ≥ 7 * 3
      omega
    rw [if_pos e]
    obtain ⟨hm, hle⟩ := sizeM n hn (by omega)
    show wpAny _ _ (setRelay r ((0 + n) * 2)) Q E s
    unfold setRelay
    refine wpAny_bind (wpAny_setState_of ho hd hf ?_)
    dsimp only
    refine wp_if_neg (by rw [sizeLine_eq]; omega) ?_
    try refine wpAny_bind (wpAny_pure ?_)
    obtain ⟨t1, order, el, pm, f1, m1, d1⟩ := laid_ok (m := SetTable.sizeAbove ((0 + n) * 2) - 1) (finger := 0) (moves := (SetTable.fresh 0 0 led).movedTo (SetTable.sizeAbove ((0 + n) * 2) - 1)) (led := led) (plain := true) (hs := (#[] : Array Int)) (.inr hm) (fun x hx => by cases hx) (Nat.zero_le _)
    have er : (SetTable.fresh 0 0 led).relaid ((#[] : Array (Int × Value)).map (·.1)) ((0 + n) * 2) = some (t1, order) := by
      unfold SetTable.relaid
      rw [show (#[] : Array (Int × Value)).map (·.1) = #[] from by simp]
      exact el
    have oz : order = #[] := by
      have := pm.length_eq
      rw [Array.length_toList] at this
      exact Array.eq_empty_of_size_eq_zero this
    rw [er, oz]
    have pz : t1.place = #[] := by
      unfold SetTable.fits at f1
      rw [Bool.and_eq_true, beq_iff_eq] at f1
      exact Array.eq_empty_of_size_eq_zero f1.1
    refine wpAny_bind (wpAny_of_eq (a := ((#[] : Array (Int × Value)), t1)) rfl ?_)
    dsimp only
    refine wpAny_storeSet_of ho hd ?_ (Nat.zero_le _)
    exact h _ _ t1 (Heap.SameBut.update s.heap r _) ⟨_, store_at ho hd, hx, rfl⟩ pz d1 (.inr (m1 ▸ hm)) (by rw [m1]; exact hle)
theorem fit_le {t : SetTable} {n : Nat} (h : t.fits n = true) : t.place.size = n ∧ t.fill ≤ t.mask := by
  unfold SetTable.fits at h
  rw [Bool.and_eq_true, beq_iff_eq, decide_eq_true_eq] at h
  exact h
theorem fm_get {α : Type} (l : List α) : (List.range l.length).filterMap (fun i => l[i]?) = l := by
  induction l with
  | nil => rfl
  | cons x l ih =>
    rw [List.length_cons, List.range_succ_eq_map, List.filterMap_cons, List.filterMap_map]
    exact congrArg (x :: ·) ih
theorem order_perm {es : Array (Int × Value)} {order : Array Nat} (pm : order.toList.Perm (List.range es.size)) : (order.filterMap (es[·]?)).toList.Perm es.toList := by
  rw [Array.toList_filterMap]
  have := pm.filterMap (fun i => es[i]?)
  refine this.trans ?_
  have e : (List.range es.size).filterMap (fun i => es[i]?) = es.toList := by
    have := fm_get es.toList
    rw [Array.length_toList] at this
    rw [← this]
    exact fm_congr fun i _ => (Array.getElem?_toList).symm
  rw [e]
theorem hash_all : ∀ n, n < 32 → 0 ≤ hashInt (n : Nat) ∧ hashInt (n : Nat) < 32 := by decide +kernel
theorem hash_small {k : Int} (h0 : 0 ≤ k) (h1 : k < 32) : 0 ≤ hashInt k ∧ hashInt k < 32 := by
  obtain ⟨n, rfl⟩ := Int.eq_ofNat_of_zero_le h0
  exact hash_all n (by omega)
/-- a copy -/
theorem copy_at (I : Is s.heap a es ep t) (hn : es.size < 32) (hk : ∀ k ∈ es.toList.map keyOf, 0 ≤ k ∧ k < 32) {Q : Value → Shared → Prop}
    (h : ∀ h' es' ep' t', (∀ b o, s.heap.get? b = some o → h'.get? b = some o) → Is h' s.heap.objs.size es' ep' t' → es'.toList.Perm es.toList → t'.dummies = #[] → es.size ≤ t'.mask → Q (.ref s.heap.objs.size) { s with heap := h' }) :
    wpAny (model P w) A (Builtin.Frozenset.copyOf a) Q E s := by
  unfold Builtin.Frozenset.copyOf
  refine wpAny_bind (base I ?_)
  refine wpAny_bind (wpAny_newSet_of (knd := intKind P w) fun led _ => ?_)
  unfold Builtin.Frozenset.addrOf
  refine wpAny_bind (wpAny_pure ?_)
  have hlt : a < s.heap.objs.size := by
    obtain ⟨⟨o, ho, _⟩, _⟩ := I
    exact Heap.lt_size ho
  have hne : a ≠ s.heap.objs.size := Nat.ne_of_lt hlt
  have hr0 : (s.heap.push { cls := .type "set", dict := none, data := .set #[] 0 (.fresh 0 0 led) }).get? s.heap.objs.size = some { cls := .type "set", dict := none, data := .set #[] 0 (.fresh 0 0 led) } := Heap.get?_push_size _ rfl
  have k0 : ∀ b o, s.heap.get? b = some o → (s.heap.push { cls := .type "set", dict := none, data := .set #[] 0 (.fresh 0 0 led) }).get? b = some o := fun b o e => Heap.get?_push_of_some _ e
  generalize s.heap.push { cls := .type "set", dict := none, data := .set #[] 0 (.fresh 0 0 led) } = h0 at hr0 k0 ⊢
  have I0 : Is h0 a es ep t := I.keep (k0 a)
  have keep : ∀ {h'}, Heap.SameBut s.heap.objs.size h0 h' → ∀ b o, s.heap.get? b = some o → h'.get? b = some o := fun {h'} sb b o e => by
    rw [sb.2 b (Nat.ne_of_lt (Heap.lt_size e))]
    exact k0 b o e
  unfold setMerge
  refine wpAny_bind ?_
  refine wp_if_neg (by simpa using fun z : s.heap.objs.size = a => hne z.symm) ?_
  try refine wpAny_bind (wpAny_pure ?_)
  refine wpAny_bind (state (s := { s with heap := h0 }) I0 ?_)
  dsimp only
  by_cases ce : es.isEmpty = true
  · refine wp_if_pos ce ?_
    have ez : es = #[] := by simpa using ce
    subst ez
    exact wpAny_pure (wpAny_pure (h h0 #[] 0 _ k0 ⟨⟨_, hr0, ⟨rfl, rfl, rfl⟩, rfl⟩, fun e he => by simp at he, List.Pairwise.nil, by decide, rfl⟩ (.refl _) rfl (Nat.zero_le _)))
  · refine wp_if_neg ce ?_
    try refine wpAny_bind (wpAny_pure ?_)
    refine wpAny_bind (room_at (s := { s with heap := h0 }) hn ⟨_, hr0, ⟨rfl, rfl, rfl⟩, rfl⟩ fun h1 ep1 t1 sb1 ho1 p1 d1 m1 l1 => ?_)
    obtain ⟨o1, ho1, hx1, hd1⟩ := ho1
    have I1 : Is h1 a es ep t := I0.same sb1 hne
    refine wpAny_bind (wpAny_setState_of (s := { s with heap := h1 }) ho1 hd1 (by unfold SetTable.fits SetTable.fill; rw [p1, d1]; simp) ?_)
    dsimp only
    have fz : ¬ ((t1.fill != 0) = true) := by
      unfold SetTable.fill
      rw [p1, d1]
      simp
    unfold SetTable.road
    rw [if_neg fz]
    obtain ⟨fp, fl⟩ := fit_le I.fit
    by_cases cm : (t1.mask == t.mask && t.dummies.isEmpty) = true
    · rw [if_pos cm]
      rw [Bool.and_eq_true, beq_iff_eq] at cm
      have dz : t.dummies = #[] := by simpa using cm.2
      dsimp only
      refine wpAny_storeSet_of (s := { s with heap := h1 }) ho1 hd1 ?_ (fits_of_scanBound I.lt)
      refine wpAny_pure (h _ es _ _ ?_ ⟨⟨_, store_at ho1 hd1, hx1, rfl⟩, I.good, I.nd, I.lt, ?_⟩ (.refl _) dz ?_)
      · exact keep (sb1.trans (Heap.SameBut.update h1 _ _))
      · exact I.fit
      · show es.size ≤ t.mask
        rw [← cm.1]
        exact l1
    · rw [if_neg cm]
      dsimp only
      obtain ⟨t2, order, el, pm, f2, m2, d2⟩ := laid_ok (m := t1.mask) (finger := t1.finger) (moves := t1.moves) (led := t1.led && t.led) (plain := t1.plain && t.plain) (hs := es.map (·.1)) m1 (fun x hx => by
        rw [Array.toList_map, List.mem_map] at hx
        obtain ⟨e, he, rfl⟩ := hx
        obtain ⟨k, tk, e1, e2⟩ := I.good e he
        have hb := hk k (List.mem_map.mpr ⟨e, he, by unfold keyOf; rw [e1]⟩)
        rw [e2]
        exact hash_small hb.1 hb.2) (by rw [Array.size_map]; exact l1)
      rw [el]
      rw [Array.size_map] at pm f2
      have pe := order_perm pm
      have sz : (order.filterMap (es[·]?)).size = es.size := by
        have := pe.length_eq
        rwa [Array.length_toList, Array.length_toList] at this
      refine wpAny_bind (wpAny_of_eq (a := (order.filterMap (es[·]?), t2)) ?_ ?_)
      · show (if ((order.filterMap (es[·]?)).size != es.size) = true then _ else _) = _
        rw [if_neg (by rw [sz]; simp)]
      · dsimp only
        refine wpAny_storeSet_of (s := { s with heap := h1 }) ho1 hd1 ?_ (fits_of_scanBound (by rw [sz]; exact I.lt))
        refine wpAny_pure (h _ (order.filterMap (es[·]?)) _ _ ?_ ⟨⟨_, store_at ho1 hd1, hx1, rfl⟩, fun e he => I.good e (pe.mem_iff.mp he), (pe.map keyOf).nodup_iff.mpr I.nd, by rw [sz]; exact I.lt, by rw [sz]; exact f2⟩ pe d2 (by rw [m2]; exact l1))
        exact keep (sb1.trans (Heap.SameBut.update h1 _ _))
end
end SD
end L2

namespace L2
open PySem PySem.Spec PyProof.Rows
namespace SD
theorem erase_list {α : Type} (xs : Array α) (p : Nat) : (SetTable.eraseAt xs p).toList = xs.toList.eraseIdx p := by
  unfold SetTable.eraseAt
  rw [Array.toList_append, Array.toList_extract, Array.toList_extract, List.eraseIdx_eq_take_drop_succ, List.extract_eq_take_drop, List.extract_eq_take_drop, List.drop_zero, Nat.sub_zero]
  congr 1
  refine List.take_of_length_le ?_
  rw [List.length_drop, Array.length_toList]
  omega
theorem insert_size {α : Type} (xs : Array α) (p : Nat) (x : α) : (SetTable.insertAt xs p x).size = xs.size + 1 := by
  rw [← Array.length_toList, SetTable.toList_insertAt, List.length_append, List.length_cons, List.length_take, List.length_drop, Array.length_toList]
  omega
theorem drop_fit {t : SetTable} {n i : Nat} (h : t.fits n = true) (hi : i < n) : (t.drop i).fits (n - 1) = true ∧ (t.drop i).dummies.size = t.dummies.size + 1 ∧ (t.drop i).mask = t.mask := by
  obtain ⟨h1, h2⟩ := fit_le h
  have e : t.place[i]? = some (t.place[i]'(by omega)) := Array.getElem?_eq_getElem (by omega)
  unfold SetTable.drop
  rw [e]
  dsimp only
  have es : (SetTable.eraseAt t.place i).size = n - 1 := by
    rw [← Array.length_toList, erase_list, List.length_eraseIdx, Array.length_toList, if_pos (by omega), h1]
  refine ⟨?_, insert_size _ _ _, rfl⟩
  unfold SetTable.fits SetTable.fill
  dsimp only
  rw [es, insert_size]
  unfold SetTable.fill at h2
  simp
  omega
section
variable {P : Program} {w : World} {A : Around} {E : Value → Shared → Prop} {s : Shared} {a : Addr} {es : Array (Int × Value)} {ep : Nat} {t : SetTable}
theorem find_at (I : Is s.heap a es ep t) {k : Int} {tk : Tok} {Q : Option Nat → Shared → Prop}
    (h1 : ∀ j, es.toList[j]?.map keyOf = some k → Q (some j) s) (h0 : k ∉ es.toList.map keyOf → Q none s) : wpAny (model P w) A (setFind a (.int k tk) (hashInt k)) Q E s := by
  have hkey : (intKind P w).is k (.int k tk) = true := intKind_is P w k tk
  have hel : ElemsOf (intKind P w) es.toList := good_elems I.good
  unfold setFind setFindIn
  refine wpAny_bind (state I ?_)
  dsimp only
  rw [byScan_of (knd := intKind P w) rfl I.lt hel]
  refine wp_if_pos rfl ?_
  refine wpAny_bind (wpAny_rule ?_)
  obtain ⟨o, ho, _, hd⟩ := I.at'
  refine wpAny_bind (wpAny_setScan_of (knd := intKind P w) hkey ho hd I.fit hel ?_)
  cases e : List.findIdx? (fun e => (intKind P w).is k e.2) es.toList with
  | none =>
    dsimp only
    refine wpAny_pure (h0 fun z => ?_)
    obtain ⟨x, hx, q⟩ := (good_mem (P := P) (w := w) I.good k).1 z
    have := List.findIdx?_eq_none_iff.mp e x hx
    rw [q] at this
    cases this
  | some j =>
    dsimp only
    obtain ⟨hj, pj, _⟩ := List.findIdx?_eq_some_iff_getElem.mp e
    rw [Nat.zero_add]
    refine wpAny_pure (h1 j ?_)
    rw [List.getElem?_eq_getElem hj]
    exact congrArg some ((good_is (P := P) (w := w) (I.good _ (List.getElem_mem hj)) k).1 pj)
theorem erase_mapA {α β : Type} (f : α → β) : ∀ (l : List α) (j : Nat), (l.eraseIdx j).map f = (l.map f).eraseIdx j
  | [], _ => rfl
  | _ :: _, 0 => rfl
  | x :: l, j + 1 => congrArg (f x :: ·) (erase_mapA f l j)
/-- a key less -/
theorem discard_at (I : Is s.heap a es ep t) {k : Int} {tk : Tok} {Q : Bool → Shared → Prop}
    (h : ∀ b h' es' ep' t', Heap.SameBut a s.heap h' → Is h' a es' ep' t' → (es'.toList.map keyOf).Perm ((es.toList.map keyOf).erase k) → t'.dummies.size ≤ t.dummies.size + 1 → t'.mask = t.mask → Q b { s with heap := h' }) :
    wpAny (model P w) A (setDiscardHashed a (.int k tk) (hashInt k)) Q E s := by
  unfold setDiscardHashed
  refine wpAny_bind (find_at I (fun j hj => ?_) fun hk => ?_)
  · dsimp only
    refine wpAny_bind (state I ?_)
    dsimp only
    obtain ⟨o, ho, hx, hd⟩ := I.at'
    have hjl : j < es.toList.length := by
      rcases Nat.lt_or_ge j es.toList.length with c | c
      · exact c
      · rw [List.getElem?_eq_none c] at hj
        cases hj
    have hsz : (SetTable.eraseAt es j).size = es.size - 1 := by
      rw [← Array.length_toList, erase_list, List.length_eraseIdx, if_pos hjl, Array.length_toList]
    refine wpAny_bind (wpAny_storeSet_of ho hd ?_ (fits_of_scanBound (by rw [hsz]; have := I.lt; omega)))
    refine wpAny_bind (wpAny_point (wpAny_pure ?_))
    rw [Array.length_toList] at hjl
    obtain ⟨f1, f2, f3⟩ := drop_fit I.fit hjl
    have ek : (SetTable.eraseAt es j).toList.map keyOf = (es.toList.map keyOf).eraseIdx j := by
      rw [erase_list]
      exact erase_mapA keyOf es.toList j
    have ejk : (es.toList.map keyOf)[j]? = some k := by rw [List.getElem?_map]; exact hj
    have pk : ((es.toList.map keyOf).eraseIdx j).Perm ((es.toList.map keyOf).erase k) := by
      have p1 := erase_perm _ j k ejk
      have p2 := List.perm_cons_erase (List.mem_of_getElem? ejk)
      exact (p1.trans p2).cons_inv
    refine h _ _ (SetTable.eraseAt es j) _ _ (Heap.SameBut.update s.heap a _) ⟨⟨_, store_at ho hd, hx, rfl⟩, fun e he => ?_, ?_, ?_, ?_⟩ (by rw [ek]; exact pk) (Nat.le_of_eq f2) f3
    · rw [erase_list] at he
      exact I.good e (List.mem_of_mem_eraseIdx he)
    · rw [ek]
      exact pk.nodup_iff.mpr (I.nd.erase k)
    · rw [hsz]
      have := I.lt
      omega
    · rw [hsz]
      exact f1
  · exact wpAny_pure (h _ s.heap es ep t (Heap.SameBut.refl a s.heap) I (by rw [List.erase_of_not_mem hk]) (Nat.le_succ _) rfl)
theorem unch (I : Is s.heap a es ep t) {id : String} {Q : Unit → Shared → Prop} (h : Q () s) : wpAny (model P w) A (Builtin.Frozenset.unchanged id a ep) Q E s := by
  unfold Builtin.Frozenset.unchanged
  refine wpAny_bind (epoch I ?_)
  refine wp_if_neg (by simp) ?_
  exact wpAny_pure h
theorem foldErase_mem : ∀ (ks : List Int) (l : List Int) (k : Int), l.Nodup → (k ∈ ks.foldl List.erase l ↔ k ∈ l ∧ k ∉ ks)
  | [], l, k, _ => ⟨fun h => ⟨h, List.not_mem_nil⟩, fun h => h.1⟩
  | x :: ks, l, k, nd => by
    rw [List.foldl_cons, foldErase_mem ks (l.erase x) k (nd.erase x), nd.mem_erase_iff, List.mem_cons]
    constructor
    · rintro ⟨⟨h1, h2⟩, h3⟩
      exact ⟨h2, fun z => z.elim h1 h3⟩
    · rintro ⟨h1, h2⟩
      exact ⟨⟨fun z => h2 (.inl z), h1⟩, fun z => h2 (.inr z)⟩
/-- the keys of b taken away from a -/
theorem update_at {b : Addr} {eb : Array (Int × Value)} {epb : Nat} {tb : SetTable} (I : Is s.heap a es ep t) (J : Is s.heap b eb epb tb) (hne : a ≠ b) (hl : w.params.followText "set-order" = true ∨ tb.led = true)
    (h8 : ¬ eb.size / 8 > es.size) (hd : t.dummies.size + eb.size ≤ t.mask / 4) {Q : Unit → Shared → Prop}
    (h : ∀ h' es' ep' t', Heap.SameBut a s.heap h' → Is h' a es' ep' t' → (∀ k, k ∈ es'.toList.map keyOf ↔ k ∈ es.toList.map keyOf ∧ k ∉ eb.toList.map keyOf) → Q () { s with heap := h' }) :
    wpAny (model P w) A (Builtin.Frozenset.differenceUpdate id0 a (.ref b)) Q E s := by
  unfold Builtin.Frozenset.differenceUpdate
  refine wp_if_neg (by simpa using fun z : b = a => hne z.symm) ?_
  try refine wpAny_bind (wpAny_pure ?_)
  refine wpAny_bind (anySet J ?_)
  dsimp only
  refine wp_if_pos rfl ?_
  unfold Builtin.Frozenset.addrOf
  refine wpAny_bind (wpAny_pure ?_)
  refine wpAny_bind (size J ?_)
  refine wpAny_bind (size I ?_)
  refine wp_if_neg h8 ?_
  try refine wpAny_bind (wpAny_pure ?_)
  refine wpAny_bind (epoch J ?_)
  refine wpAny_bind (m := holding [Value.ref b] _) (wpAny_holding ?_)
  refine wpAny_bind (walkN J hl (fun c hc => ?_) fun ew pw => ?_)
  · obtain rfl := List.mem_singleton.mp hc
    exact ⟨_, _, _, I⟩
  refine wpAny_bind (wpAny_forIn_array' _ (fun rest _ s' => ∃ done h' es' ep' t', ew.toList = done ++ rest ∧ s' = { s with heap := h' } ∧ Heap.SameBut a s.heap h' ∧ Is h' a es' ep' t' ∧
      (es'.toList.map keyOf).Perm ((done.map keyOf).foldl List.erase (es.toList.map keyOf)) ∧ t'.dummies.size ≤ t.dummies.size + done.length ∧ t'.mask = t.mask)
    _ (fun x rest u s1 hI => ?_) (fun u s1 hI => ?_) ew PUnit.unit
    ⟨[], s.heap, es, ep, t, rfl, rfl, Heap.SameBut.refl a s.heap, I, .refl _, Nat.le_add_right _ _, rfl⟩)
  · obtain ⟨done, h1, e1, ep1, t1, esplit, rfl, sb, I1, pm, dm, mk⟩ := hI
    have hx : x ∈ eb.toList := pw.mem_iff.mp (by rw [esplit]; exact List.mem_append_right _ List.mem_cons_self)
    obtain ⟨k, tk, e2, e3⟩ := J.good x hx
    obtain ⟨x1, x2⟩ := x
    dsimp only at e2 e3
    subst e2
    subst e3
    dsimp only
    refine wpAny_bind (m := holding [Value.int k tk] _) (wpAny_holding (discard_at (s := { s with heap := h1 }) I1 fun bb h2 e4 ep4 t4 sb2 I2 pm2 dm2 mk2 => ?_))
    have J2 : Is h2 b eb epb tb := (J.same sb hne.symm).same sb2 hne.symm
    refine wpAny_bind (unch (s := { s with heap := h2 }) J2 ?_)
    refine wpAny_pure ⟨done ++ [(hashInt k, Value.int k tk)], h2, e4, ep4, t4, by rw [esplit, List.append_assoc]; rfl, rfl, sb.trans sb2, I2, ?_, ?_, mk2.trans mk⟩
    · rw [List.map_append, List.foldl_append]
      exact pm2.trans (pm.erase k)
    · rw [List.length_append, List.length_singleton]
      omega
  · obtain ⟨done, h1, e1, ep1, t1, esplit, rfl, sb, I1, pm, dm, mk⟩ := hI
    rw [List.append_nil] at esplit
    rw [← esplit] at pm dm
    try refine wpAny_pure ?_
    unfold setTidy
    refine wpAny_bind (state (s := { s with heap := h1 }) I1 ?_)
    dsimp only
    rw [pw.length_eq, Array.length_toList] at dm
    refine wp_if_neg (by unfold SetTable.tooManyDummies; rw [decide_eq_true_eq, mk]; omega) ?_
    refine wpAny_pure (h h1 e1 ep1 t1 sb I1 fun k => ?_)
    rw [pm.mem_iff, foldErase_mem _ _ _ I.nd, (pw.map keyOf).mem_iff]
end
end SD
end L2

namespace L2
open PySem PySem.Spec PyProof.Rows
namespace SD
section
variable {P : Program} {w : World} {A : Around} {E : Value → Shared → Prop} {s : Shared} {a b : Addr} {S T : Int → Bool} {n m : Nat}
theorem dec_t {l : List Int} {k : Int} {T : Int → Bool} (h : T k = true) (j : Int) : (decide (j ∈ l ++ [k]) && !T j) = (decide (j ∈ l) && !T j) := by
  by_cases e : j = k
  · rw [e, h, Bool.not_true, Bool.and_false, Bool.and_false]
  · congr 1
    simp [e]
theorem dec_f {l : List Int} {k : Int} {T : Int → Bool} (h : T k = false) (j : Int) : (decide (j ∈ l ++ [k]) && !T j) = ((decide (j ∈ l) && !T j) || decide (j = k)) := by
  by_cases e : j = k
  · rw [e, h]
    simp
  · simp [e]
/-- a new set of the keys of a that are not b's -/
def Diff (h0 : Heap) (S T : Int → Bool) (r : Addr) (h' : Heap) : Prop :=
  (∀ b o, h0.get? b = some o → h'.get? b = some o) ∧ ∃ es ep t, Is h' r es ep t ∧ ∀ k, k ∈ es.toList.map keyOf ↔ S k = true ∧ T k = false
theorem diff_at {id0 : String} (R : SetR w s.heap a S n) (R2 : SetR w s.heap b T m) (hne : a ≠ b) (hn : n < 32) (hk : ∀ k, S k = true → 0 ≤ k ∧ k < 32) {Q : Value → Shared → Prop}
    (h : ∀ h', Diff s.heap S T s.heap.objs.size h' → Q (.ref s.heap.objs.size) { s with heap := h' }) : wpAny (model P w) A (Builtin.Frozenset.difference id0 a (.ref b)) Q E s := by
  obtain ⟨es, ep, t, I, hS, hsz, hl⟩ := Is.of R
  obtain ⟨eb, epb, tb, J, hT, hszb, hlb⟩ := Is.of R2
  have lta : a < s.heap.objs.size := R.lt
  have ltb : b < s.heap.objs.size := R2.lt
  unfold Builtin.Frozenset.difference
  refine wpAny_bind (anySet J ?_)
  refine wp_if_neg (by simp) ?_
  try refine wpAny_bind (wpAny_pure ?_)
  refine wp_if_neg (by simp) ?_
  refine wp_if_pos rfl ?_
  refine wpAny_bind (size J ?_)
  refine wpAny_bind (size I ?_)
  by_cases c : es.size / 4 > eb.size
  · refine wp_if_pos c ?_
    refine wpAny_bind (wpAny_rule ?_)
    refine wpAny_bind (copy_at I (by omega) (fun k hkk => hk k ((hS k).mpr hkk)) fun h1 e1 ep1 t1 k1 I1 pm1 d1 m1 => ?_)
    refine wpAny_bind (wpAny_pure ?_)
    have J1 : Is h1 b eb epb tb := J.keep (k1 b)
    have z1 : e1.size = es.size := by
      have := pm1.length_eq
      rwa [Array.length_toList, Array.length_toList] at this
    refine wpAny_bind (wpAny_holding (update_at (s := { s with heap := h1 }) I1 J1 (Nat.ne_of_gt ltb) hlb (by rw [z1]; omega) (by rw [d1]; show 0 + _ ≤ _; omega) fun h2 e2 ep2 t2 sb2 I2 mem2 => ?_))
    refine wpAny_pure (h h2 ⟨fun c o e => ?_, e2, ep2, t2, I2, fun k => ?_⟩)
    · rw [sb2.2 c (Nat.ne_of_lt (Heap.lt_size e))]
      exact k1 c o e
    · rw [mem2 k, (pm1.map keyOf).mem_iff, ← hS k, ← hT k, Bool.not_eq_true]
  · refine wp_if_neg c ?_
    refine wpAny_bind (base I ?_)
    refine wpAny_bind ?_
    unfold newSet
    refine wpAny_bind (wpAny_byText ?_)
    try dsimp only
    simp only [newObj]
    refine wpAny_bind (wpAny_alloc (wpAny_pure ?_))
    have R0 := setR_fresh (h := s.heap) w
    have k0 : ∀ b o, s.heap.get? b = some o → (s.heap.push { cls := .type "set", dict := none, data := .set #[] 0 (.fresh 0 0 (!w.params.followText "set-order")) }).get? b = some o := fun b o e => Heap.get?_push_of_some _ e
    revert R0 k0
    show (SetR w (s.heap.push { cls := .type "set", dict := none, data := .set #[] 0 (.fresh 0 0 (!w.params.followText "set-order")) }) s.heap.objs.size (fun _ => false) 0 → _ → wpAny _ _ _ _ _ { s with heap := s.heap.push { cls := .type "set", dict := none, data := .set #[] 0 (.fresh 0 0 (!w.params.followText "set-order")) } })
    generalize s.heap.push { cls := .type "set", dict := none, data := .set #[] 0 (.fresh 0 0 (!w.params.followText "set-order")) } = h0
    intro R0 k0
    refine wpAny_bind (wpAny_pure ?_)
    have I0 : Is h0 a es ep t := I.keep (k0 a)
    have J0 : SetR w h0 b T m := R2.at (k0 b)
    refine wpAny_bind (epoch (s := { s with heap := h0 }) I0 ?_)
    refine wpAny_bind (wpAny_holding ?_)
    refine wpAny_bind ?_
    refine wp_if_pos (by trivial) ?_
    refine walkF (s := { s with heap := h0 }) I0 hl (fun c hc => ?_) R0 fun ew h1 pw sb1 R1 => ?_
    · rcases List.mem_cons.mp hc with rfl | hc
      · obtain ⟨x1, x2, x3, x4, _⟩ := Is.of J0
        exact ⟨x1, x2, x3, x4⟩
      · obtain rfl := List.mem_singleton.mp hc
        obtain ⟨x1, x2, x3, x4, _⟩ := Is.of R0
        exact ⟨x1, x2, x3, x4⟩
    refine wpAny_bind (wpAny_forIn_array' _ (fun rest _ s' => ∃ done h' c, ew.toList = done ++ rest ∧ s' = { s with heap := h' } ∧ Heap.SameBut s.heap.objs.size h0 h' ∧ c ≤ done.length ∧
      SetR w h' s.heap.objs.size (fun k => decide (k ∈ done.map keyOf) && !T k) c) _ (fun x rest u s1 hI => ?_) (fun u s1 hI => ?_) ew PUnit.unit ⟨[], h1, 0, rfl, rfl, sb1, Nat.le_refl _, R1.congr fun k => by simp⟩)
    · obtain ⟨done, h2, c2, esplit, rfl, sb2, lc, R3⟩ := hI
      have hx : x ∈ es.toList := pw.mem_iff.mp (by rw [esplit]; exact List.mem_append_right _ List.mem_cons_self)
      have hlen : done.length < es.size := by
        have := pw.length_eq
        rw [esplit, List.length_append, List.length_cons] at this
        have l2 : es.toList.length = es.size := Array.length_toList
        omega
      obtain ⟨k, tk, e2, e3⟩ := I.good x hx
      obtain ⟨x1, x2⟩ := x
      dsimp only at e2 e3
      subst e2
      subst e3
      dsimp only
      have I2 : Is h2 a es ep t := I0.same sb2 (Nat.ne_of_lt lta)
      have J2 : SetR w h2 b T m := J0.at fun o e => by rw [sb2.2 b (Nat.ne_of_lt ltb)]; exact e
      have sp : (done ++ [(hashInt k, Value.int k tk)]).map keyOf = done.map keyOf ++ [k] := by rw [List.map_append]; rfl
      refine wpAny_bind (wpAny_holding ?_)
      refine wp_if_pos (by trivial) ?_
      refine wpAny_bind (wpAny_setFind_of (s := { s with heap := h2 }) (knd := intKind P w) (intKind_is P w k tk) rfl J2.setOf fun r hr => ?_)
      try refine wpAny_bind (wpAny_pure ?_)
      cases hTk : T k with
      | true =>
        rw [hTk] at hr
        refine wp_if_neg (by rw [hr]; simp) ?_
        refine wpAny_pure ?_
        refine wpAny_bind (unch (s := { s with heap := h2 }) I2 ?_)
        refine wpAny_pure ⟨done ++ [(hashInt k, Value.int k tk)], h2, c2, by rw [esplit, List.append_assoc]; rfl, rfl, sb2, by rw [List.length_append]; omega, R3.congr fun j => ?_⟩
        rw [sp]
        exact dec_t hTk j
      | false =>
        rw [hTk] at hr
        refine wp_if_pos (by rw [hr]; rfl) ?_
        refine wpAny_bind (setR_add_hashed (s := { s with heap := h2 }) (P := P) R3 (by unfold scanBound; omega) fun h3 sb3 R4 => ?_)
        refine wpAny_pure ?_
        refine wpAny_bind (unch (s := { s with heap := h3 }) (I2.same sb3 (Nat.ne_of_lt lta)) ?_)
        refine wpAny_pure ⟨done ++ [(hashInt k, Value.int k tk)], h3, _, by rw [esplit, List.append_assoc]; rfl, rfl, sb2.trans sb3, ?_, R4.congr fun j => ?_⟩
        · rw [List.length_append, List.length_singleton]
          split <;> omega
        · rw [sp]
          exact dec_f hTk j
    · obtain ⟨done, h2, c2, esplit, rfl, sb2, lc, R3⟩ := hI
      rw [List.append_nil] at esplit
      rw [← esplit] at R3
      refine wpAny_pure (wpAny_pure (h h2 ⟨fun c o e => ?_, ?_⟩))
      · rw [sb2.2 c (Nat.ne_of_lt (Heap.lt_size e))]
        exact k0 c o e
      · obtain ⟨e4, ep4, t4, I4, m4, _⟩ := Is.of R3
        refine ⟨e4, ep4, t4, I4, fun k => ?_⟩
        rw [← m4 k, Bool.and_eq_true, decide_eq_true_eq, (pw.map keyOf).mem_iff, ← hS k, Bool.not_eq_true']
/-- a - b -/
theorem entry_sub : entryFor table "set.__sub__" = some Builtin.«frozenset.__sub__» :=
  entryFor_alias (id' := "frozenset.__sub__") (by kernel_rfl) rfl (by decide +kernel) (by kernel_rfl)
theorem sub_at (R : SetR w s.heap a S n) (R2 : SetR w s.heap b T m) (hne : a ≠ b) (hn : n < 32) (hk : ∀ k, S k = true → 0 ≤ k ∧ k < 32) {Q : Value → Shared → Prop}
    (h : ∀ h', Diff s.heap S T s.heap.objs.size h' → Q (.ref s.heap.objs.size) { s with heap := h' }) : wpAny (model P w) A (binaryOp .Sub (.ref a) (.ref b)) Q E s := by
  obtain ⟨es, ep, t, I, _⟩ := Is.of R
  obtain ⟨eb, epb, tb, J, _⟩ := Is.of R2
  refine wpAny_binaryOp_same (T := "set") (op := .Sub) I.type J.type PySem.F.fills_set_sub PySem.F.slot_set_sub ?_
  refine wpAny_call_entry PySem.F.slot_set_sub I.type entry_sub ?_ (PySem.F.args_set_sub_2 _ _)
  show wpAny _ _ (Builtin.Frozenset.slot1 "__sub__" ⟨[.ref a, .ref b], []⟩ >>= _) _ _ s
  unfold Builtin.Frozenset.slot1 slotArgs
  refine wpAny_bind (m := (do
    let (self, [x]) ← (pure (Value.ref a, [Value.ref b]) : Sem (Value × List Value)) | unsupported "internal:set-binding"
    return (self, x))) (wpAny_bind (wpAny_pure (wpAny_pure ?_)))
  refine wpAny_bind ?_
  refine wpAny_bind (anySet I ?_)
  refine anySet J ?_
  refine wp_if_neg (by simp) ?_
  try refine wpAny_bind (wpAny_pure ?_)
  refine wpAny_bind (diff_at R R2 hne hn hk fun h' d => ?_)
  exact wpAny_pure ⟨_, rfl, (fun z => nomatch z), h h' d⟩
end
end SD
end L2

namespace L2
open PySem PySem.Spec PyProof.Rows
namespace SD
/-- a new empty set, as the maker leaves it -/
def e0 (w : World) : Obj := { cls := .type "set", dict := none, data := .set #[] 0 (.fresh 0 0 (!w.params.followText "set-order")) }
section
variable {P : Program} {w : World} {A : Around} {E : Value → Shared → Prop} {s : Shared}
set_option maxHeartbeats 3200000 in
/-- set(xs), xs a list of ints: as a set that can be gone through -/
theorem set_of_list {l : Addr} {items : Array Value} (ns : List Int) {Q : Value → Shared → Prop} (hh : A.handled = none) (hl : s.heap.IsList l items) (hit : IntsAre items.toList ns) (hb : ns.length + 1 < scanBound)
    (h : ∀ (h' : Heap) (tk c : Nat), SetR w h' s.heap.objs.size (fun j => decide (j ∈ ns)) c → c ≤ ns.length → (∀ b o, s.heap.get? b = some o → h'.get? b = some o) → Q (.ref s.heap.objs.size) { s with heap := h', toks := tk }) :
    wpAny (model P w) A (call (.type "set") [.ref l]) Q E s := by
  have sz : items.size = ns.length := (Array.length_toList (xs := items)).symm.trans (IntsAre.length hit)
  have V : ∀ (i : Nat) (v : Value), items[i]? = some v → ∃ k t, ns[i]? = some k ∧ v = .int k t := fun i v hv => by
    have hi : i < ns.length := sz ▸ (Array.getElem?_eq_some_iff.mp hv).1
    obtain ⟨t, e⟩ := IntsAre.int_at hit i v (by rw [Array.getElem?_toList]; exact hv)
    exact ⟨ns[i], t, List.getElem?_eq_getElem hi, by rw [e, List.getD_eq_getElem?_getD, List.getElem?_eq_getElem hi]; rfl⟩
  obtain ⟨_, _, mro⟩ := PySem.F.called_set.mro
  have made := PySem.F.called_set.made; have sub := PySem.F.called_set.sub
  refine wpAny_call (codeAny_of_tree (show wpAny _ _ (callAny (.type "set") _) _ _ _ from ?_))
  refine wpAny_pure ⟨Code.quiet_builtin _ (by decide +kernel), codeAny_builtin PySem.F.entry_type_call ?_⟩
  rw [Around.under_plain (weight_type_call_type "set" [.ref l] []) rfl]
  have nt := PySem.F.called_set.notType; have cc := PySem.F.called_set.canCreate; have tc := PySem.F.typeCall_set_1 (.ref l)
  repeat (any_goals (first | assumption | wp_step))
  have at0 : (s.heap.push (e0 w)).get? s.heap.objs.size = some (e0 w) := Heap.get?_push_size _ rfl
  have keep0 : ∀ b o, s.heap.get? b = some o → (s.heap.push (e0 w)).get? b = some o := fun b o e => Heap.get?_push_of_some _ e
  refine codeAny_mono (code_set_led1 (.ref l) (E := E) (Q₁ := fun ob s₁ => ob = .ref s.heap.objs.size ∧ s₁ = { s with heap := s.heap.push (e0 w) }) ⟨rfl, rfl⟩) fun r s₁ hr => ?_
  match r, hr with
  | .error e, hr => exact hr
  | .ok (.ret ob), hr =>
    obtain ⟨rfl, rfl⟩ := hr
    have ty : Shared.TypeIs { s with heap := s.heap.push (e0 w) } (.ref s.heap.objs.size) "set" := ⟨_, at0, rfl⟩
    have il := PySem.F.called_set.init.lookup; have ib := PySem.F.called_set.init.bind (.ref s.heap.objs.size)
    repeat (any_goals (first | assumption | wp_step))
    refine codeAny_mono (codeAny_call_builtin (R := wants (fun r s₂ => r = .none ∧ ∃ h' tk c, s₂ = { s with heap := h', toks := tk } ∧ SetR w h' s.heap.objs.size (fun j => decide (j ∈ ns)) c ∧ c ≤ ns.length ∧ ∀ b o, s.heap.get? b = some o → h'.get? b = some o) E)
      PySem.F.called_set.init.plain PySem.F.entry_set_init (check_set_init_1 ty ?_)) fun r₂ s₂ hr₂ => ?_
    · obtain ⟨⟨oc, od, oda, osl⟩, hol, hcl, nl, hdl⟩ := hl
      simp only at hcl hdl
      subst hcl; subst hdl
      have ol' := keep0 _ _ hol
      have s1 := PySem.F.sub_list_set; have s2 := PySem.F.sub_list_frozenset
      have nd : (Value.type "list" == Value.type "dict") = false := by decide
      have isl : (s.heap.push (e0 w)).IsList l items := ⟨_, ol', rfl, nl, rfl⟩
      have lS : l < s.heap.objs.size := Heap.lt_size hol
      have zz : (s.heap.push (e0 w)).objs.size = s.heap.objs.size + 1 := Heap.size_push ..
      unfold Builtin.«set.__init__» noKeywords Builtin.Frozenset.updateFrom
      generalize hPI : pyIter = PI
      wp_walk
      subst hPI
      refine wpAny_pyIter_list isl (wpAny_bind (wpAny_runValue ?_))
      have h3 : A.in1.in1.in1.handled = none := by simp [hh]
      have neI : l ≠ (s.heap.push (e0 w)).objs.size := by rw [zz]; exact Nat.ne_of_lt (Nat.lt_succ_of_lt lS)
      refine set_update_ints ((Walks.list h3 _ l neI items).toS) s.heap.objs.size (by rw [zz]; simpa using fun z : s.heap.objs.size = l => Nat.ne_of_gt lS z) ns sz hb V (items.size - 0) 0 _ (by omega) (Nat.zero_le _) ⟨⟨_, Heap.get?_push_size _ rfl, rfl, rfl⟩, isl.push _⟩
        ⟨0, Nat.le_refl 0, setR_new_at (Heap.get?_push_of_some _ at0)⟩ fun s' c' hm lc hS' => ?_
      obtain ⟨h', g2, d', tk', os'⟩ := s'
      obtain rfl : g2 = s.gens := hm.gens
      obtain rfl : d' = s.drawn := hm.drawn
      obtain rfl : os' = s.os := hm.os
      refine (show wpAny _ _ _ _ _ _ from wpAny_pure ?_)
      refine (show wpAny _ _ (ret Value.none) _ _ _ from wpAny_pure ⟨rfl, h', tk', c', rfl, hS', by omega, fun b o e => ?_⟩)
      have hb0 : b < s.heap.objs.size := Heap.lt_size e
      refine hm.heap b o ?_ (Heap.get?_push_of_some _ (keep0 b o e))
      rw [zz]
      simpa using ⟨Nat.ne_of_lt hb0, Nat.ne_of_lt (Nat.lt_succ_of_lt hb0)⟩
    · match r₂, hr₂ with
      | .error e, hr₂ => exact hr₂
      | .ok (.ret r), hr₂ =>
        obtain ⟨rfl, h', tk, c', rfl, hS', hc', hk'⟩ := hr₂
        repeat (any_goals (first | assumption | wp_step))
        exact h _ _ _ hS' hc' hk'
      | .ok .next, hr₂ => exact hr₂.elim
      | .ok .brk, hr₂ => exact hr₂.elim
      | .ok .cont, hr₂ => exact hr₂.elim
  | .ok .next, hr => exact hr.elim
  | .ok .brk, hr => exact hr.elim
  | .ok .cont, hr => exact hr.elim
end
end SD
end L2

namespace L2
open PySem PySem.Spec PyProof.Rows
namespace SD
theorem pigeon {α : Type} [DecidableEq α] : ∀ (l m : List α), l.Nodup → (∀ x ∈ l, x ∈ m) → l.length ≤ m.length
  | [], _, _, _ => Nat.zero_le _
  | x :: l, m, nd, hs => by
    obtain ⟨n1, n2⟩ := List.nodup_cons.mp nd
    have hx := hs x List.mem_cons_self
    have ih := pigeon l (m.erase x) n2 fun y hy => (List.mem_erase_of_ne fun e => n1 (by rw [← e]; exact hy)).mpr (hs y (List.mem_cons_of_mem _ hy))
    have e := List.length_erase_of_mem hx
    have hp := List.length_pos_of_mem hx
    rw [List.length_cons]
    omega
theorem same_len {α : Type} [DecidableEq α] {l m : List α} (nl : l.Nodup) (nm : m.Nodup) (h : ∀ x, x ∈ l ↔ x ∈ m) : l.length = m.length :=
  Nat.le_antisymm (pigeon l m nl fun x hx => (h x).mp hx) (pigeon m l nm fun x hx => (h x).mpr hx)
section
variable {X : Cx}
/-- len(set(xs)): as many as there are different ones -/
def tLenSet (K : PySem.W.Frag) (ta : TE) : TE := fun σ H Q => ta σ H fun x H1 => ∃ (l : Addr) (ns : List Int), x = V.ref l ∧ SqL K H1 l (ns.map V.int) ∧ ns.length < 64 ∧
  ∀ L : List Int, L.Nodup → (∀ k, k ∈ L ↔ k ∈ ns) → Q (.int L.length) H1
/-- len(set(xs) - set(ys)) -/
def tLenSub (K : PySem.W.Frag) (ta tb : TE) : TE := fun σ H Q => ta σ H fun x H1 => ∃ (l : Addr) (ns : List Int), x = V.ref l ∧ SqL K H1 l (ns.map V.int) ∧ ns.length < 32 ∧ (∀ k ∈ ns, 0 ≤ k ∧ k < 32) ∧
  tb σ H1 fun y H2 => ∃ (l2 : Addr) (ms : List Int), y = V.ref l2 ∧ SqL K H2 l2 (ms.map V.int) ∧ ms.length < 64 ∧ ∀ L : List Int, L.Nodup → (∀ k, k ∈ L ↔ k ∈ ns ∧ k ∉ ms) → Q (.int L.length) H2
theorem pe_lenSetD {a : Expr} {ta : TE} {p p2 q pos : Pos} (hc : X.calm = true) (hg : Gl X "len") (hm : X.mg "len" = none) (hg2 : Gl X "set") (hm2 : X.mg "set" = none) (ha : PE X a ta)
    (na : starEach [a] X.env = (false, eval a X.env) :: starEach [] X.env := by rfl) : PE X (.Call (.Name "len" p) [.Call (.Name "set" p2) [a] [] q] [] pos) (tLenSet X.K ta) := by
  refine ⟨fun pins s σ H Q I h => ?_⟩
  refine Call_ (ld_blt I hg hm PySem.boot_len (callWith_builtin1 (args_cons ?_ rfl) rfl rfl))
  refine Call_ (ld_blt I hg2 hm2 PyProof.Rows.boot_set (callWith_type1 (args_cons (thn (ha.run pins s σ H _ I h) fun v s1 ⟨x, H1, I1, r1, q1⟩ => args_nil ?_) na) na rfl))
  obtain ⟨l, ns, rfl, hq, h1, q1⟩ := q1
  cases r1
  obtain ⟨its, r, pl, hz⟩ := I1.list hq
  refine set_of_list ns (I1.ok.hd hc) pl.isList (by simpa using r.ints) (by unfold scanBound; omega) fun h' tk c R hcn hk => args_nil ?_
  obtain ⟨es, ep, t, J, hS, hsz, _⟩ := Is.of R
  obtain ⟨o, ho, hx, hd⟩ := J.at'
  have I2 : Inv X pins σ H1 { s1 with heap := h', toks := tk } := I1.kept hk
  refine call_len_set ho hx hd J.fit (by omega) ⟨.int (es.toList.map keyOf).length, H1, I2.tok _, ⟨_, by rw [List.length_map, Array.length_toList]⟩, q1 _ J.nd fun k => ?_⟩
  rw [← hS k, decide_eq_true_eq]
theorem pe_lenSub {a b : Expr} {ta tb : TE} {p p2 p3 q q3 pb pos : Pos} (hc : X.calm = true) (hg : Gl X "len") (hm : X.mg "len" = none) (hg2 : Gl X "set") (hm2 : X.mg "set" = none) (ha : PE X a ta) (hb : PE X b tb)
    (na : starEach [a] X.env = (false, eval a X.env) :: starEach [] X.env := by rfl) (nb : starEach [b] X.env = (false, eval b X.env) :: starEach [] X.env := by rfl) :
    PE X (.Call (.Name "len" p) [.BinOp (.Call (.Name "set" p2) [a] [] q) .Sub (.Call (.Name "set" p3) [b] [] q3) pb] [] pos) (tLenSub X.K ta tb) := by
  refine ⟨fun pins s σ H Q I h => ?_⟩
  refine Call_ (ld_blt I hg hm PySem.boot_len (callWith_builtin1 (args_cons (wpAny_BinOp ?_) rfl) rfl rfl))
  refine Call_ (ld_blt I hg2 hm2 PyProof.Rows.boot_set (callWith_type1 (args_cons (thn (ha.run pins s σ H _ I h) fun v s1 ⟨x, H1, I1, r1, q1⟩ => args_nil ?_) na) na rfl))
  obtain ⟨l, ns, rfl, hq, h1, hr, q1⟩ := q1
  cases r1
  obtain ⟨its, r, pl, hz⟩ := I1.list hq
  refine set_of_list ns (I1.ok.hd hc) pl.isList (by simpa using r.ints) (by unfold scanBound; omega) fun h' tk c R hcn hk => ?_
  have I2 : Inv X pins σ H1 { s1 with heap := h', toks := tk } := I1.kept hk
  obtain ⟨oa, hoa⟩ : ∃ o, h'.get? s1.heap.objs.size = some o := by
    obtain ⟨o, _, _, _, ho, _⟩ := id R
    exact ⟨o, ho⟩
  have nocell : ∀ v, oa.data ≠ .cell v := fun v z => by
    obtain ⟨o, es, ep, t, ho, _, hd, _⟩ := id R
    rw [hoa] at ho
    obtain rfl := Option.some.inj ho
    rw [hd] at z
    cases z
  have I3 : Inv X ((s1.heap.objs.size, oa) :: pins) σ H1 { s1 with heap := h', toks := tk } := I2.pins_of fun p hp => by
    rcases List.mem_cons.mp hp with rfl | hp
    · exact ⟨hoa, I1.hok.fresh (Nat.le_refl _), Nat.ne_of_gt I1.lt, I1.nofs (Nat.le_refl _), nocell⟩
    · exact I2.pin p (List.mem_append_right _ hp)
  refine Call_ (ld_blt I3 hg2 hm2 PyProof.Rows.boot_set (callWith_type1 (args_cons (thn (hb.run _ _ σ H1 _ I3 q1) fun u s2 ⟨y, H2, I4, r2, q2⟩ => args_nil ?_) nb) nb rfl))
  obtain ⟨l2, ms, rfl, hq2, h2, q2⟩ := q2
  cases r2
  obtain ⟨its2, r2, pl2, hz2⟩ := I4.list hq2
  refine set_of_list ms (I4.ok.hd hc) pl2.isList (by simpa using r2.ints) (by unfold scanBound; omega) fun h2' tk2 c2 R2 hcn2 hk2 => ?_
  have pa := (I4.pin (s1.heap.objs.size, oa) (List.mem_append_right _ List.mem_cons_self)).1
  have Ra : SetR X.w h2' s1.heap.objs.size (fun j => decide (j ∈ ns)) c := R.at fun o e => by
    rw [hoa] at e
    obtain rfl := Option.some.inj e
    exact hk2 _ _ pa
  have lta : s1.heap.objs.size < s2.heap.objs.size := Heap.lt_size pa
  refine sub_at (s := { s2 with heap := h2', toks := tk2 }) Ra R2 (Nat.ne_of_lt lta) (by omega) (fun k hkk => hr k (of_decide_eq_true hkk)) fun h3 D => args_nil ?_
  obtain ⟨hk3, es, ep, t, J, mem⟩ := D
  obtain ⟨o, ho, hx, hd⟩ := J.at'
  have I5 : Inv X pins σ H2 { s2 with heap := h3, toks := tk2 } := (I4.pins_of fun p hp => I4.pin p (List.mem_append_right _ (List.mem_cons_of_mem _ hp))).kept fun b u e => hk3 b u (hk2 b u e)
  have lt := J.lt
  refine call_len_set (s := { s2 with heap := h3, toks := tk2 }) ho hx hd J.fit (by unfold scanBound at lt; omega) ⟨.int (es.toList.map keyOf).length, H2, I5.tok _, ⟨_, by rw [List.length_map, Array.length_toList]⟩, q2 _ J.nd fun k => ?_⟩
  rw [mem k, decide_eq_true_eq, decide_eq_false_iff_not]
end
end SD
end L2

/-! ### list.count of a plain value -/
namespace L2
open PySem PySem.Spec PyProof.Rows
theorem countU {y : V} {uy : Value} (f : V → Bool) (g : Value → Bool) (h : ∀ z u, flatV z = true → RelV z u → g u = f z) : ∀ {ys : List V} {its : List Value}, Vals ys its → ys.all flatV = true → its.countP g = ys.countP f
  | _, _, .nil, _ => rfl
  | _, _, .cons r t, a => by
    rw [List.all_cons, Bool.and_eq_true] at a
    rw [List.countP_cons, List.countP_cons, countU (y := y) (uy := uy) f g h t a.2, h _ _ a.1 r]
def rCntV (K : PySem.W.Frag) : V → List V → Hp → VK → Prop := fun x xs H Q => ∃ (a : Addr) (ys : List V) (y : V), x = V.ref a ∧ xs = [y] ∧ SqL K H a ys ∧ flatV y = true ∧ ys.all flatV = true ∧ Q (.int (ys.countP fun z => eqV z y : Nat)) H
section
variable {X : Cx}
theorem mt_countV : MtR X "list.count" (rCntV X.K) := by
  intro pins s σ H x xs v us Q I rx rxs h
  obtain ⟨a, ys, y, rfl, rfl, hs, fy, fys, q⟩ := h
  cases rx
  cases rxs with
  | cons ry rt =>
    rename_i uy ut
    cases rt
    obtain ⟨its, rv, ⟨⟨cls, dd, data, sl⟩, n, ho, hc, hdn, hd⟩, hlen⟩ := I.list hs
    simp only at hc hd
    subst hc hd
    refine call_meets PySem.F.slot_list_count ⟨_, ho, rfl⟩ PySem.F.entry_list_count (PySem.F.args_list_count_2 _ _)
      (SeqAt.list_countAt a its.toArray n dd sl uy (eqU y)) ⟨ho, fun u' hu' => mem_eqAt ry fy rv fys u' (by simpa using hu'), ?_⟩
    have ec : its.toArray.toList.countP (eqU y) = ys.countP fun z => eqV z y := countU (y := y) (uy := uy) _ _ (fun z u fz r => eqU_of r fz) rv fys
    refine ⟨.int (ys.countP fun z => eqV z y : Nat), H, I.tok _, ⟨s.toks, ?_⟩, q⟩
    show Value.int ((its.toArray.toList.countP (eqU y) : Nat) : Int) s.toks = _
    rw [ec]
end
end L2

/-! ### sorted(list of data) -/
namespace L2
open PySem PySem.Spec PyProof.Rows
def rSortG (K : PySem.W.Frag) : List V → Hp → VK → Prop := fun vs H Q => ∃ (β : Type) (enc : β → PyData) (R : V → β → Prop) (a : Addr) (xs : List V) (bs : List β), vs = [V.ref a] ∧ SqL K H a xs ∧ (∀ x ∈ xs, ∃ t, x = V.ref t) ∧ Paired R xs bs ∧ Paired (fun x b => Dp K H x (enc b)) xs bs ∧
  PySem.W.AllAlike (bs.map enc) ∧ PySem.W.Sortable (bs.map enc) ∧ (∀ b ∈ bs, (enc b).depth ≤ 60) ∧ ∀ ys p, Paired R ys (bs.mergeSort (PySem.W.dataLe false enc)) → H p = none → Q (.ref p) (upd H p (.lst ys))
theorem each_of {β : Type} {R : V → β → Prop} : ∀ {us : List Value} {bs : List β}, Paired R (us.map backV) bs → PySem.W.EachIs (fun u b => R (backV u) b) us bs
  | [], _, h => by
    cases h
    exact .nil
  | u :: us, _, h => by
    cases h with
    | cons a t => exact .cons a (each_of t)
theorem of_each {β : Type} {R : V → β → Prop} : ∀ {us : List Value} {bs : List β}, PySem.W.EachIs (fun u b => R (backV u) b) us bs → Paired R (us.map backV) bs
  | _, _, .nil => .nil
  | _, _, .cons a t => .cons a (of_each t)
theorem each_and {α β : Type} {R S : α → β → Prop} : ∀ {us : List α} {bs : List β}, PySem.W.EachIs R us bs → PySem.W.EachIs S us bs → PySem.W.EachIs (fun u b => R u b ∧ S u b) us bs
  | _, _, .nil, .nil => .nil
  | _, _, .cons a t, .cons b u => .cons ⟨a, b⟩ (each_and t u)
theorem each_ref {β : Type} : ∀ {us : List Value} {bs : List β}, us.length = bs.length → (∀ u ∈ us, ∃ a, u = Value.ref a) → PySem.W.EachIs (fun u (_ : β) => ∃ a, u = Value.ref a) us bs
  | [], [], _, _ => .nil
  | u :: us, b :: bs, h, k => .cons (k u List.mem_cons_self) (each_ref (Nat.succ.inj h) fun v hv => k v (List.mem_cons_of_mem _ hv))
theorem each_mem {β : Type} {R : Value → β → Prop} {p : Value → Prop} (h : ∀ u b, R u b → p u) : ∀ {us : List Value} {bs : List β}, PySem.W.EachIs R us bs → ∀ u ∈ us, p u
  | _, _, .nil, u, hu => nomatch hu
  | _, _, .cons a t, u, hu => by
    rcases List.mem_cons.mp hu with rfl | hu
    · exact h _ _ a
    · exact each_mem h t u hu
theorem each_mono {β : Type} {R S : Value → β → Prop} (h : ∀ u b, R u b → S u b) : ∀ {us : List Value} {bs : List β}, PySem.W.EachIs R us bs → PySem.W.EachIs S us bs
  | _, _, .nil => .nil
  | _, _, .cons a t => .cons (h _ _ a) (each_mono h t)
theorem each_reads {X : Cx} {pins : List (Addr × Obj)} {σ : St} {H : Hp} {s : Shared} (I : Inv X pins σ H s) {β : Type} {enc : β → PyData} : ∀ {xs : List V} {us : List Value} {bs : List β}, Vals xs us → Paired (fun x b => Dp X.K H x (enc b)) xs bs → PySem.W.EachIs (fun v b => ∃ as, PySem.Reads s.heap v (enc b) as) us bs
  | _, _, _, .nil, .nil => .nil
  | _, _, _, .cons r t, .cons a u => .cons (Dp.reads I _ _ _ a r) (each_reads I t u)
section
variable {X : Cx}
theorem cr_sortedG (hu : X.A.units + 64 < cLine) : CallR X (.builtin "sorted") (rSortG X.K) := by
  intro pins s σ H vs us Q I r h
  obtain ⟨β, enc, R, a, xs, bs, rfl, hs, hx, pR, pD, al, so, dp, q⟩ := h
  obtain ⟨its, rv, hl, hz⟩ := I.list hs
  obtain ⟨u, rfl, ru⟩ := vals1 r
  obtain rfl : u = Value.ref a := ru
  obtain ⟨e1, e2⟩ := refs_back rv hx
  have er := each_reads I rv pD
  have lx : its.length = bs.length := by rw [← rv.length, pR.length]
  have eR : PySem.W.EachIs (fun u b => R (backV u) b) its bs := each_of (e1 ▸ pR)
  have eA := each_and eR (each_ref lx e2)
  refine PySem.W.sorted_data (enc := enc) hl.isList eA er al so (by rw [← lx, ← rv.length]; exact hz) (fun b hb => by have := dp b hb; omega) fun out ho eo => ?_
  obtain ⟨c, hc⟩ := PyProof.Rows.sortedAll_at s.heap its out.toArray
  have h3 : ∀ u ∈ out, ∃ a, u = Value.ref a := each_mem (fun _ _ h => h.2) eo
  have pO : Paired R (out.map backV) (bs.mergeSort (PySem.W.dataLe false enc)) := of_each (each_mono (fun _ _ h => h.1) eo)
  refine ⟨.ref (s.heap.objs.size + 1), upd H (s.heap.objs.size + 1) (.lst (out.map backV)), I.laid (t' := s.toks) (fun b o e => PyProof.Rows.sortedAll_old e) (Nat.le_succ _) ⟨?_, out, c, vals_back h3, hc⟩, rfl, q _ _ pO (I.hok.fresh (Nat.le_succ _))⟩
  rw [List.length_map, ho, ← lx, ← rv.length]
  exact hz
end
end L2

/-! ### a def that is called, within an except suite, with the exception that the suite holds -/
namespace L2
open PySem PySem.Spec PyProof.Rows
structure FnE (P : Program) (w : World) (K : PySem.W.Frag) (mg : Str → Option Value) (base : Heap) (k : Nat) (f : Addr) (fd : FuncData) (ps : List Str) (sp : Addr → Value → Option Addr → Sp) : Prop where
  len : ∀ a cls d vs H Q E, sp a cls d vs H Q E → vs.length = ps.length
  run : ∀ (A : Around) (outer : List Env) (s : Shared) (H : Hp) (args : Args) (us : List Value) (vs : List V) (Q : VK) (E : XK) (a : Addr) (oe : Obj) (cls : Value) (d : Option Addr), L2H.RoomH k A → L2H.Hot1 A (a, oe) → L2H.PinOk outer H s (a, oe) → Zc cls d oe → Env0 P w K mg base A outer s H →
    BindsTo s fd args (ps.zip us) → Vals vs us → sp a cls d vs H Q E → codeAny (model P w) A (.call (.ref f) args) (CR CX0 outer P w H s Q E) s
theorem Fun.okE {P : Program} {w : World} {K : PySem.W.Frag} {mg : Str → Option Value} {base : Heap} {x qual : Str} {st : Stmt} {f : Addr} {fd : FuncData} {N ps : List Str} {k : Nat} {sp : Addr → Value → Option Addr → Sp} (F : Fun K x qual st f fd) (S : FnScope N ps (defScope st))
    (len : ∀ a cls d vs H Q E, sp a cls d vs H Q E → vs.length = ps.length)
    (hbody : ∀ (cdv : Value) (A : Around) (outer : List Env) (s : Shared) (H : Hp) (vs : List V) (Q : VK) (E : XK) (a : Addr) (oe : Obj) (cls : Value) (d : Option Addr), Zc cls d oe → (∃ vs, oe.data = .fields vs) →
      L2H.RoomH k (A.deeper (envOfC qual (defScope st) s.heap.objs.size f cdv)) → sp a cls d vs H Q E →
      ∃ t, PSs (L2H.cxH CX0 P w K mg base N qual (defScope st) f cdv A outer s H E (a, oe)) (defBody st) t ∧ t { nx := fun _ H' => Q .non H', rt := Q } (start N vs) H) : FnE P w K mg base (k + 1) f fd ps sp := by
  obtain ⟨oc, od, kV, doc, pm, an, cdv, ct, osl, rfl, lk, hcd⟩ := F.ex
  refine ⟨len, fun A outer s H args us vs Q E a oe cls d hr hot hpin hz e0 hb r hsp => ?_⟩
  have keep := fun b o (e : base.get? b = some o) => (e0.bs b o e).1
  have inK : K.In s.heap := e0.mod.kin.keeps keep
  refine codeAny_call_function hr.depth (inK _ _ lk) rfl S.co S.gen rfl (PySem.W.codeRec_of inK hcd) (hb _ _ _ _ ?_)
  refine wpAny_newFunctionEnv_cells S.kind (fun ⟨n, v⟩ hy => ?_) fun env he s1 xx => ?_
  · exact (S.par n (List.of_mem_zip hy).1).elim .inl fun q => .inr ⟨q, PySem.W.cellsFrom_some _ _ _ (.inl q)⟩
  · subst he
    refine ⟨(e0.mod.nolimit.keeps keep).keeps xx.toInCall.keep, codeAny_func ?_⟩
    obtain ⟨t, ht, hq⟩ := hbody cdv A outer s H vs Q E a oe cls d hz ⟨_, hot.2.choose_spec.1⟩ (hr.deeper _) hsp
    have I := L2H.inv_startH (CX := CX0) (E := E) S hpin e0 (len _ _ _ _ _ _ _ hsp) r xx
    refine wpAny_mono (ht.run [] s1 _ H _ I hq) (fun fl s' hs => ?_) fun e s' hs => hs
    have fin : ∀ {σ' : St} {H' : Hp} {v : V} {u : Value}, Inv (L2H.cxH CX0 P w K mg base N qual (defScope st) f cdv A outer s H E (a, oe)) [] σ' H' s' → RelV v u → Q v H' → CE outer P w H s Q u s' :=
      fun {σ' H' v u} J rv q => ⟨v, H', J.os, J.bare, J.base, J.hok, rv, q⟩
    rcases fl with _ | _ | _ | u
    · obtain ⟨σ', H', J, q⟩ := hs
      exact fin (v := V.non) (u := Value.none) J rfl q
    · exact hs.elim fun _ z => z.elim fun _ z => z.2.elim
    · exact hs.elim fun _ z => z.elim fun _ z => z.2.elim
    · obtain ⟨v, σ', H', J, rv, q⟩ := hs
      exact fin J rv q
theorem roomE_of {k : Nat} {A : Around} (r : Room k A) (v : Option Value) : L2H.RoomH k (A.mark v) := ⟨r.dp, r.un⟩
def tCallX1 (sp : Addr → Value → Option Addr → Sp) (a : Addr) (cls : Value) (d : Option Addr) (t : TA) : TE := fun σ H Q => t σ H fun vs H1 => sp a cls d vs H1 Q E0
theorem pe_callX1 {X : Cx} {k : Nat} {f : Addr} {fd : FuncData} {ps : List Str} {sp : Addr → Value → Option Addr → Sp} {x : Str} {q pos : Pos} {e : Expr} {es : List Expr} {t : TA} {a : Addr} {oe : Obj} {cls : Value} {d : Option Addr} {pn : List (Addr × Obj)}
    (F : FnE X.prog X.w X.K X.mg X.base k f fd ps sp) (hr : Room k X.A) (hz : L2N.Zn cls d oe) (hf : ∃ vs, oe.data = .fields vs) (hg : Gl X x) (hm : X.mg x = some (.ref f)) (hk : PySem.W.keepIn X.K (.ref f) = true) (hb : Binds X.K fd ps [])
    (ha : PA (X.suite a ((a, oe) :: pn)) (e :: es) t) (hdb : (x == ("__debug__" : Str)) = false := by decide) (he : starEach (e :: es) X.env = (false, eval e X.env) :: starEach es X.env := by rfl) (hpl : (backTo pos (starEach es X.env)).any (·.1) = false := by rfl) :
    PE (X.suite a ((a, oe) :: pn)) (.Call (.Name x q) (e :: es) [] pos) (tCallX1 sp a cls d t) := by
  refine ⟨fun pins s σ H Q I h => ?_⟩
  refine wpAny_Call_Name_kw (ld_glob (X := X.suite a ((a, oe) :: pn)) I hg hm ?_ hdb)
  refine PySem.W.callWith_K (h₀ := X.base) I.ok.mod.kin hk (thn (ha.run pos pins s σ H _ I h) fun us s1 ⟨vs, H1, I1, r, q⟩ => ⟨I1.kIn, ?_⟩) he hpl
  have hl : us.length = ps.length := by rw [← r.length]; exact F.len _ _ _ _ _ _ _ q
  have b := hb s1 us I1.kIn (by rw [List.append_nil]; exact hl)
  rw [List.append_nil] at b
  have P1 := I1.pin (a, oe) (List.mem_append_left _ List.mem_cons_self)
  have hpin : L2H.PinOk (X.suite a ((a, oe) :: pn)).stack H1 s1 (a, oe) := ⟨P1.1, P1.2.1, fun hm => (List.mem_cons.mp (I1.stkSub a hm)).elim P1.2.2.1 P1.2.2.2.1, P1.2.2.2.2⟩
  have hot : L2H.Hot1 (X.suite a ((a, oe) :: pn)).A (a, oe) := by
    obtain ⟨vs, e⟩ := hf
    exact ⟨rfl, vs, e, hz.2.2 vs e⟩
  refine wpAny_call (codeAny_mono (F.run (X.suite a ((a, oe) :: pn)).A _ s1 H1 ⟨us, []⟩ us vs Q E0 a oe cls d (roomE_of hr _) hot hpin ⟨hz.1, hz.2.1⟩ I1.env0 b r q) fun r s' hq => ?_)
  cases r with
  | error e => exact hq.elim
  | ok fl =>
    cases fl with
    | ret u => exact I1.after hq
    | next => exact False.elim hq
    | brk => exact False.elim hq
    | cont => exact False.elim hq
/-- isinstance of that exception, in that def -/
def rIsEP (K : PySem.W.Frag) (cls : Value) (d : Option Addr) (a : Addr) : List V → Hp → VK → Prop := fun xs H Q => ∃ D : Addr, cls = .ref D ∧ d = none ∧ ExcC K D ∧ rIsE K D a xs H Q
theorem call_isEP {X : Cx} {a : Addr} {oe : Obj} {cls : Value} {d : Option Addr} (hp : (a, oe) ∈ X.pn) (hz : Zc cls d oe) (hf : ∃ vs, oe.data = .fields vs) : CallR X (.builtin "isinstance") (rIsEP X.K cls d a) := by
  intro pins s σ H xs us Q I r h
  obtain ⟨D, rfl, rfl, C, c, cv, b, rfl, hcv, e, q⟩ := h
  cases r with
  | cons rx rr =>
    cases rr with
    | cons rt rr =>
      cases rr
      cases rx
      have ec := hcv _ rt
      subst ec
      obtain ⟨hget, _⟩ := I.pin (a, oe) (List.mem_append.mpr (.inl hp))
      obtain ⟨vs, hv⟩ := hf
      have J : PySem.W.InstAt s.heap a oe D none := by
        obtain ⟨oc, od, oda, osl⟩ := oe
        obtain ⟨h1, h2⟩ := hz
        dsimp only at h1 h2 hv
        subst h1 h2 hv
        exact ⟨hget, rfl, rfl, trivial⟩
      exact PySem.W.kia_one (PySem.W.handS_kitx_exc C.hg C.hk C.hs C.hd C.ha C.hn C.ht C.hm) I.kIn J e (fun z => nomatch z) fun tk => ⟨.bl b, H, I.kept (t' := tk) fun _ _ z => z, rfl, q⟩
theorem call_isEH {P : Program} {w : World} {K : PySem.W.Frag} {mg : Str → Option Value} {base : Heap} {N : List Str} {qual : Str} {scope : Scope} {f : Addr} {cdv : Value} {A : Around} {outer : List Env} {s : Shared} {H : Hp} {E : XK} {a : Addr} {oe : Obj} {cls : Value} {d : Option Addr} (hz : Zc cls d oe) (hf : ∃ vs, oe.data = .fields vs) :
    CallR (L2H.cxH CX0 P w K mg base N qual scope f cdv A outer s H E (a, oe)) (.builtin "isinstance") (rIsEP K cls d a) :=
  call_isEP List.mem_cons_self hz hf
end L2

namespace L2
open PySem PySem.Spec PyProof.Rows
namespace SD
section
variable {P : Program} {w : World} {A : Around} {E : Value → Shared → Prop} {s : Shared}
set_option maxHeartbeats 3200000 in
/-- set(xs), xs a tuple of ints -/
theorem set_of_tup {l : Addr} {items : Array Value} (ns : List Int) {Q : Value → Shared → Prop} (hh : A.handled = none) (hl : IsTup s.heap l items) (hit : IntsAre items.toList ns) (hb : ns.length + 1 < scanBound)
    (h : ∀ (h' : Heap) (tk c : Nat), SetR w h' s.heap.objs.size (fun j => decide (j ∈ ns)) c → c ≤ ns.length → (∀ b o, s.heap.get? b = some o → h'.get? b = some o) → Q (.ref s.heap.objs.size) { s with heap := h', toks := tk }) :
    wpAny (model P w) A (call (.type "set") [.ref l]) Q E s := by
  have sz : items.size = ns.length := (Array.length_toList (xs := items)).symm.trans (IntsAre.length hit)
  have V : ∀ (i : Nat) (v : Value), items[i]? = some v → ∃ k t, ns[i]? = some k ∧ v = .int k t := fun i v hv => by
    have hi : i < ns.length := sz ▸ (Array.getElem?_eq_some_iff.mp hv).1
    obtain ⟨t, e⟩ := IntsAre.int_at hit i v (by rw [Array.getElem?_toList]; exact hv)
    exact ⟨ns[i], t, List.getElem?_eq_getElem hi, by rw [e, List.getD_eq_getElem?_getD, List.getElem?_eq_getElem hi]; rfl⟩
  obtain ⟨_, _, mro⟩ := PySem.F.called_set.mro
  have made := PySem.F.called_set.made; have sub := PySem.F.called_set.sub
  refine wpAny_call (codeAny_of_tree (show wpAny _ _ (callAny (.type "set") _) _ _ _ from ?_))
  refine wpAny_pure ⟨Code.quiet_builtin _ (by decide +kernel), codeAny_builtin PySem.F.entry_type_call ?_⟩
  rw [Around.under_plain (weight_type_call_type "set" [.ref l] []) rfl]
  have nt := PySem.F.called_set.notType; have cc := PySem.F.called_set.canCreate; have tc := PySem.F.typeCall_set_1 (.ref l)
  repeat (any_goals (first | assumption | wp_step))
  have at0 : (s.heap.push (e0 w)).get? s.heap.objs.size = some (e0 w) := Heap.get?_push_size _ rfl
  have keep0 : ∀ b o, s.heap.get? b = some o → (s.heap.push (e0 w)).get? b = some o := fun b o e => Heap.get?_push_of_some _ e
  refine codeAny_mono (code_set_led1 (.ref l) (E := E) (Q₁ := fun ob s₁ => ob = .ref s.heap.objs.size ∧ s₁ = { s with heap := s.heap.push (e0 w) }) ⟨rfl, rfl⟩) fun r s₁ hr => ?_
  match r, hr with
  | .error e, hr => exact hr
  | .ok (.ret ob), hr =>
    obtain ⟨rfl, rfl⟩ := hr
    have ty : Shared.TypeIs { s with heap := s.heap.push (e0 w) } (.ref s.heap.objs.size) "set" := ⟨_, at0, rfl⟩
    have il := PySem.F.called_set.init.lookup; have ib := PySem.F.called_set.init.bind (.ref s.heap.objs.size)
    repeat (any_goals (first | assumption | wp_step))
    refine codeAny_mono (codeAny_call_builtin (R := wants (fun r s₂ => r = .none ∧ ∃ h' tk c, s₂ = { s with heap := h', toks := tk } ∧ SetR w h' s.heap.objs.size (fun j => decide (j ∈ ns)) c ∧ c ≤ ns.length ∧ ∀ b o, s.heap.get? b = some o → h'.get? b = some o) E)
      PySem.F.called_set.init.plain PySem.F.entry_set_init (check_set_init_1 ty ?_)) fun r₂ s₂ hr₂ => ?_
    · obtain ⟨⟨oc, od, oda, osl⟩, hol, hcl, nl, hdl⟩ := hl
      simp only at hcl hdl
      subst hcl; subst hdl
      have ol' := keep0 _ _ hol
      have s1 := PySem.F.sub_tuple_set; have s2 := PySem.F.sub_tuple_frozenset
      have nd : (Value.type "tuple" == Value.type "dict") = false := by decide
      have isl : (s.heap.push (e0 w)).IsTuple l items := ⟨_, ol', rfl, nl, rfl⟩
      have lS : l < s.heap.objs.size := Heap.lt_size hol
      have zz : (s.heap.push (e0 w)).objs.size = s.heap.objs.size + 1 := Heap.size_push ..
      unfold Builtin.«set.__init__» noKeywords Builtin.Frozenset.updateFrom
      generalize hPI : pyIter = PI
      wp_walk
      subst hPI
      refine wpAny_pyIter_tuple isl (wpAny_bind (wpAny_runValue ?_))
      have h3 : A.in1.in1.in1.handled = none := by simp [hh]
      have neI : l ≠ (s.heap.push (e0 w)).objs.size := by rw [zz]; exact Nat.ne_of_lt (Nat.lt_succ_of_lt lS)
      refine set_update_ints ((Walks.tuple h3 _ l neI items).toS) s.heap.objs.size (by rw [zz]; simpa using fun z : s.heap.objs.size = l => Nat.ne_of_gt lS z) ns sz hb V (items.size - 0) 0 _ (by omega) (Nat.zero_le _) ⟨⟨_, Heap.get?_push_size _ rfl, rfl, rfl⟩, ⟨_, Heap.get?_push_of_some _ ol', rfl, nl, rfl⟩⟩
        ⟨0, Nat.le_refl 0, setR_new_at (Heap.get?_push_of_some _ at0)⟩ fun s' c' hm lc hS' => ?_
      obtain ⟨h', g2, d', tk', os'⟩ := s'
      obtain rfl : g2 = s.gens := hm.gens
      obtain rfl : d' = s.drawn := hm.drawn
      obtain rfl : os' = s.os := hm.os
      refine (show wpAny _ _ _ _ _ _ from wpAny_pure ?_)
      refine (show wpAny _ _ (ret Value.none) _ _ _ from wpAny_pure ⟨rfl, h', tk', c', rfl, hS', by omega, fun b o e => ?_⟩)
      have hb0 : b < s.heap.objs.size := Heap.lt_size e
      refine hm.heap b o ?_ (Heap.get?_push_of_some _ (keep0 b o e))
      rw [zz]
      simpa using ⟨Nat.ne_of_lt hb0, Nat.ne_of_lt (Nat.lt_succ_of_lt hb0)⟩
    · match r₂, hr₂ with
      | .error e, hr₂ => exact hr₂
      | .ok (.ret r), hr₂ =>
        obtain ⟨rfl, h', tk, c', rfl, hS', hc', hk'⟩ := hr₂
        repeat (any_goals (first | assumption | wp_step))
        exact h _ _ _ hS' hc' hk'
      | .ok .next, hr₂ => exact hr₂.elim
      | .ok .brk, hr₂ => exact hr₂.elim
      | .ok .cont, hr₂ => exact hr₂.elim
  | .ok .next, hr => exact hr.elim
  | .ok .brk, hr => exact hr.elim
  | .ok .cont, hr => exact hr.elim
end
section
variable {X : Cx}
/-- len(set(t)), t a tuple: as many as there are different ones -/
def tLenSetT (K : PySem.W.Frag) (ta : TE) : TE := fun σ H Q => ta σ H fun x H1 => ∃ (l : Addr) (ns : List Int), x = V.ref l ∧ SqT K H1 l (ns.map V.int) ∧ ns.length < 64 ∧
  ∀ L : List Int, L.Nodup → (∀ k, k ∈ L ↔ k ∈ ns) → Q (.int L.length) H1
theorem pe_lenSetT {a : Expr} {ta : TE} {p p2 q pos : Pos} (hc : X.calm = true) (hg : Gl X "len") (hm : X.mg "len" = none) (hg2 : Gl X "set") (hm2 : X.mg "set" = none) (ha : PE X a ta)
    (na : starEach [a] X.env = (false, eval a X.env) :: starEach [] X.env := by rfl) : PE X (.Call (.Name "len" p) [.Call (.Name "set" p2) [a] [] q] [] pos) (tLenSetT X.K ta) := by
  refine ⟨fun pins s σ H Q I h => ?_⟩
  refine Call_ (ld_blt I hg hm PySem.boot_len (callWith_builtin1 (args_cons ?_ rfl) rfl rfl))
  refine Call_ (ld_blt I hg2 hm2 PyProof.Rows.boot_set (callWith_type1 (args_cons (thn (ha.run pins s σ H _ I h) fun v s1 ⟨x, H1, I1, r1, q1⟩ => args_nil ?_) na) na rfl))
  obtain ⟨l, ns, rfl, hq, h1, q1⟩ := q1
  cases r1
  obtain ⟨its, r, pl, hz⟩ := I1.tuple hq
  refine set_of_tup ns (I1.ok.hd hc) pl (by simpa using r.ints) (by unfold scanBound; omega) fun h' tk c R hcn hk => args_nil ?_
  obtain ⟨es, ep, t, J, hS, hsz, _⟩ := Is.of R
  obtain ⟨o, ho, hx, hd⟩ := J.at'
  have I2 : Inv X pins σ H1 { s1 with heap := h', toks := tk } := I1.kept hk
  refine call_len_set ho hx hd J.fit (by omega) ⟨.int (es.toList.map keyOf).length, H1, I2.tok _, ⟨_, by rw [List.length_map, Array.length_toList]⟩, q1 _ J.nd fun k => ?_⟩
  rw [← hS k, decide_eq_true_eq]
end
end SD
end L2

namespace T
open PySem PySem.Spec PyProof.Rows L2
def SameBut (a : Addr) (H H' : Hp) : Prop := ∀ b o, b ≠ a → H b = some o → H' b = some o
theorem SameBut.refl (a : Addr) (H : Hp) : SameBut a H H := fun _ _ _ h => h
theorem SameBut.trans {a : Addr} {H H1 H2 : Hp} (x : SameBut a H H1) (y : SameBut a H1 H2) : SameBut a H H2 := fun b o n h => y b o n (x b o n h)
theorem SameBut.upd {a : Addr} {H : Hp} {o : HO} : SameBut a H (upd H a o) := fun b u n h => by rw [upd_ne n]; exact h
theorem SameBut.new {a p : Addr} {H : Hp} {o : HO} (h : H p = none) : SameBut a H (L2.upd H p o) := fun b u n e => by rw [upd_ne (ne_of_none e h)]; exact e
theorem Same.but {a : Addr} {H H' : Hp} (h : Same H H') : SameBut a H H' := fun b o _ e => h b o e
theorem same_upd {H : Hp} {p : Addr} {o : HO} (h : H p = none) : Same H (upd H p o) := fun b x e => by
  rw [upd_ne (ne_of_none e h)]
  exact e
theorem upd_self {H : Hp} {a : Addr} {o : HO} (h : H a = some o) : upd H a o = H := by
  funext b
  unfold upd
  by_cases e : b = a
  · rw [if_pos e, e, h]
  · rw [if_neg e]
theorem Same.mut {H H' : Hp} {p : Addr} {o : HO} (e : Same H H') (h : H p = none) : Same H (upd H' p o) := fun a u ha => by
  rw [upd_ne (ne_of_none ha h)]
  exact e a u ha
theorem map_int_get {ns : List Int} {i : Nat} {y : V} (hi : (ns.map V.int)[i]? = some y) : ∃ z, ns[i]? = some z ∧ y = V.int z := by
  rw [List.getElem?_map] at hi
  cases e : ns[i]? with
  | none =>
    rw [e] at hi
    cases hi
  | some z =>
    rw [e] at hi
    exact ⟨z, rfl, (Option.some.inj hi).symm⟩
theorem small_of {n : Nat} (h : n ≤ 100000) : n < sizeLine := Nat.lt_of_le_of_lt h (by decide)
structure ErrC (K : PySem.W.Frag) (mg : Str → Option Value) (x : Str) (C : Addr) : Prop where
  gc : mg x = some (.ref C)
  xC : PySem.W.excIn K C [.type "ValueError", .type "Exception", .type "BaseException", .type "object"] "ValueError.__new__" = true
  kc : PySem.W.keepIn K (.ref C) = true
  bc : PySem.W.subIn K (.ref C) (.type "BaseException") = some true
  tc : PySem.W.typeIn K (.ref C) = some (.type "type")
/-- a def whose defaults stand somewhere (called with all its arguments) -/
structure FunA (K : PySem.W.Frag) (x qual : Str) (st : Stmt) (f : Addr) (fd : FuncData) : Prop where
  ex : ∃ (oc : Value) (od : Option Addr) (dV kV doc pm : Value) (an : Option Addr) (cdv ct : Value) (osl : Array (Option Value)),
    fd = PySem.W.fnOf x qual (defArgs st) (defBody st) (defScope st) dV kV doc pm an cdv ct ∧ K.lookup f = some ⟨oc, od, .func fd, osl⟩ ∧ PySem.W.codeIn K cdv qual = true
  kp : PySem.W.keepIn K (.ref f) = true
section
variable {P : Program} {w : World} {K : PySem.W.Frag} {mg : Str → Option Value} {base : Heap}
theorem FunA.okX {x qual : Str} {st : Stmt} {f : Addr} {fd : FuncData} {N ps : List Str} {k : Nat} {sp : Sp} (F : FunA K x qual st f fd) (S : FnScope N ps (defScope st)) (len : ∀ vs H Q E, sp vs H Q E → vs.length = ps.length)
    (hbody : ∀ (cdv : Value) (A : Around) (outer : List Env) (s : Shared) (H : Hp) (vs : List V) (Q : VK) (E : XK), Room k (A.deeper (envOfC qual (defScope st) s.heap.objs.size f cdv)) → sp vs H Q E →
      ∃ t, PSs (cxOf (L2.CX P w) P w K mg base N qual (defScope st) f cdv A outer s H E) (defBody st) t ∧ t { nx := fun _ H' => Q .non H', rt := Q } (start N vs) H) : FnOk P w K mg base (L2.CX P w) (k + 1) f fd ps sp := by
  obtain ⟨oc, od, dV, kV, doc, pm, an, cdv, ct, osl, rfl, lk, hcd⟩ := F.ex
  exact fn_of lk hcd S len fun A outer s H vs Q E hr hsp => hbody cdv A outer s H vs Q E hr hsp
end
theorem if_pos_of {b : Bool} {A B : Prop} (h : b = true) (x : A) : if b = true then A else B := by
  rw [if_pos h]
  exact x
theorem if_neg_of {b : Bool} {A B : Prop} (h : ¬ b = true) (x : B) : if b = true then A else B := by
  rw [if_neg h]
  exact x
theorem sqT_same {K : PySem.W.Frag} {H H' : Hp} {a : Addr} {xs : List V} (e : Same H H') (h : SqT K H a xs) : SqT K H' a xs := by
  rcases h with (h | ⟨o, h⟩) | h
  · exact .inl (.inl (e _ _ h))
  · exact .inl (.inr ⟨o, e _ _ h⟩)
  · exact .inr h
section
variable {P : Program} {w : World} {K : PySem.W.Frag} {mg : Str → Option Value} {base : Heap}
theorem room64 {k : Nat} {A : Around} (hr : Room k A) : A.units + 64 < cLine := by have := hr.un; omega
theorem room65 {k : Nat} {A : Around} (hr : Room k A) : A.units + 65 < cLine := by have := hr.un; omega
theorem inV_primes {p : Int} : inV (.int p) [.int 2, .int 3, .int 5, .int 7, .int 11, .int 13, .int 17, .int 19, .int 23, .int 29, .int 31] = inV (.int p) (primes.map V.int) := rfl
end
theorem sqT_but {K : PySem.W.Frag} {H H' : Hp} {r a : Addr} {xs : List V} (e : SameBut r H H') (n : a ≠ r) (h : SqT K H a xs) : SqT K H' a xs := by
  rcases h with (h | ⟨o, h⟩) | h
  · exact .inl (.inl (e _ _ n h))
  · exact .inl (.inr ⟨o, e _ _ n h⟩)
  · exact .inr h
theorem at_tab {xs : List Int} {i : Int} (h0 : 0 ≤ i) (h1 : i < xs.length) : atI (xs.map V.int) i = some (.int (xs.getD i.toNat 0)) := by
  obtain ⟨n, rfl⟩ := Int.eq_ofNat_of_zero_le h0
  have hn : n < xs.length := by omega
  refine atI_nat ?_
  rw [List.getElem?_map, List.getElem?_eq_getElem hn, List.getD_eq_getElem?_getD, show ((n : Nat) : Int).toNat = n from rfl, List.getElem?_eq_getElem hn]
  rfl
theorem mod_lt8 (n : Int) {m : Int} (h : 0 < m) : 0 ≤ n % m ∧ n % m < m := ⟨Int.emod_nonneg _ (by omega), Int.emod_lt_of_pos _ h⟩
def wtab : List Int := [0, 0, 0, 2, 3, 5, 7, 31]
theorem wtab_in : ∀ k : Nat, k < 8 → wtab.getD k 0 = 0 ∨ (wtab.getD k 0 ≠ 0 ∧ inV (.int (wtab.getD k 0)) (primes.map V.int) = true ∧ 2 ≤ wtab.getD k 0) := by decide
/-! ### isinstance of the error that an except suite holds -/
def rIsE' (K : PySem.W.Frag) (cls : Value) (d : Option Addr) (a : Addr) : List V → Hp → VK → Prop := fun xs H Q => ∃ D : Addr, cls = .ref D ∧ d = none ∧ ExcC K D ∧ rIsE K D a xs H Q
theorem call_isE' {X : Cx} {a : Addr} {oe : Obj} {pn : List (Addr × Obj)} {cls : Value} {d : Option Addr} (hz : Zc cls d oe) (hf : ∃ vs, oe.data = .fields vs) : CallR (X.suite a ((a, oe) :: pn)) (.builtin "isinstance") (rIsE' X.K cls d a) := by
  intro pins s σ H xs us Q I r h
  obtain ⟨D, rfl, rfl, C, h⟩ := h
  exact call_isE C hz hf pins s σ H xs us Q I r h
theorem pe_indexK {X : Cx} {K : PySem.W.Frag} {o e : Expr} {to : TE} {t : TA} {apos cpos : Pos} (hK : X.K = K) (ho : PE X o to) (ha : PA X [e] t)
    (hb : attributeBase o "index" X.env (eval o X.env) = eval o X.env := by rfl)
    (hf : ((backTo cpos (starEach [e] X.env)).all (fun x => !x.1) && (backToKw cpos (keywordEach [] X.env)).all (fun x => x.1.isSome) && decide ([e].length + ([] : List Keyword).length + (if ([] : List Keyword).isEmpty then 0 else 1) < 30)) = true := by rfl)
    (hl : (apos.endLine == cpos.line) = true := by rfl) (hs : starEach [e] X.env = (false, eval e X.env) :: starEach [] X.env := by rfl) (hp : (backTo cpos (starEach [] X.env)).any (·.1) = false := by rfl) :
    PE X (.Call (.Attribute o "index" apos) [e] [] cpos) (tBM K "list" (rIndex K) to t) := by
  subst hK
  exact pe_bm PySem.F.plainAttrs_list PySem.F.slot_list_index PySem.F.type_list_index mt_index ho ha hb hf hl hs hp
/-! ### values without depth -/
inductive Val1 (H : Hp) : V → PyData → Prop
  | non : Val1 H .non .none
  | bl (b : Bool) : Val1 H (.bl b) (.bool b)
  | str (x : Str) : Val1 H (.str x) (.str x)
  | pair {t : Addr} {u v : Int} : H t = some (.tup [.int u, .int v]) → Val1 H (.ref t) (.tuple [.int u, .int v])
theorem Val1.dp {K : PySem.W.Frag} {H : Hp} {x : V} {d : PyData} (h : Val1 H x d) : Dp K H x d := by
  cases h with
  | non => exact .non
  | bl b => exact .bl b
  | str x => exact .str x
  | pair h => exact .tup (.inl (.inl h)) (.cons (.int _) (.cons (.int _) .nil))
theorem Val1.but {H H' : Hp} {D : Addr} {ys : List V} {x : V} {d : PyData} (s : SameBut D H H') (hD : H D = some (.lst ys)) (h : Val1 H x d) : Val1 H' x d := by
  cases h with
  | non => exact .non
  | bl b => exact .bl b
  | str x => exact .str x
  | pair h => exact .pair (s _ _ (ne_of h hD (fun z => nomatch z)) h)
theorem Val1.same {H H' : Hp} {x : V} {d : PyData} (s : Same H H') (h : Val1 H x d) : Val1 H' x d := by
  cases h with
  | non => exact .non
  | bl b => exact .bl b
  | str x => exact .str x
  | pair h => exact .pair (s _ _ h)
theorem vals1_dp {K : PySem.W.Frag} {H : Hp} : ∀ {xs : List V} {ds : List PyData}, Paired (Val1 H) xs ds → DpAll K H xs ds
  | _, _, .nil => .nil
  | _, _, .cons a b => .cons a.dp (vals1_dp b)
theorem paired_snoc {α β : Type} {F : α → β → Prop} {a : α} {b : β} (h : F a b) : ∀ {l : List α} {m : List β}, Paired F l m → Paired F (l ++ [a]) (m ++ [b])
  | _, _, .nil => .cons h .nil
  | _, _, .cons x y => .cons x (paired_snoc h y)

/-- the first def of a class -/
def inCls : Stmt → Stmt
  | .ClassDef _ _ _ body _ _ _ _ _ _ _ => body.getD 0 (.Pass ⟨0, 0, 0, 0⟩)
  | s => s
theorem pt_truthK {X : Cx} {K : PySem.W.Frag} {a : Expr} {ta : TE} (hK : X.K = K) (ha : PE X a ta) (he : ∀ whole, isTrue a X.env whole = (do let v ← whole; standAt a.pos; holding [v] (truthy v))) :
    PT X a (fun σ H Q => ta σ H fun x H' => ∃ k, TruV K x H' k ∧ Q k H') := by
  subst hK
  exact pt_truth ha he
theorem op_in_seqK {X : Cx} {K : PySem.W.Frag} (hK : X.K = K) : OpR X (compareOp .In) (rIn K false) := by
  subst hK
  exact op_in_seq
theorem op_notIn_seqK {X : Cx} {K : PySem.W.Frag} (hK : X.K = K) : OpR X (compareOp .NotIn) (rIn K true) := by
  subst hK
  exact op_notIn_seq
theorem pi_listK {X : Cx} {K : PySem.W.Frag} {tg e : Expr} {te : TE} (hK : X.K = K) (he : PE X e te) : PI X tg e (iList K te) := by
  subst hK
  exact pi_list he

def topS (i : Nat) : Stmt := PySem.Challenge.pw_threadworth_k48_closings_and_worths.main.body.getD i (.Pass ⟨0, 0, 0, 0⟩)
abbrev s_is_size_ : Stmt := topS 14
theorem sc_is_size_ : FnScope ["n", "m"] ["n", "m"] (defScope s_is_size_) := ⟨rfl, rfl, rfl, by decide +kernel, rfl, by decide +kernel, by decide +kernel⟩
abbrev s_check_size_ : Stmt := topS 15
theorem sc_check_size_ : FnScope ["n", "m"] ["n", "m"] (defScope s_check_size_) := ⟨rfl, rfl, rfl, by decide +kernel, rfl, by decide +kernel, by decide +kernel⟩
abbrev s_is_diagram : Stmt := topS 16
theorem sc_is_diagram : FnScope ["diagram", "n", "m", "blocks", "points", "firsts", "block", "point"] ["diagram"] (defScope s_is_diagram) := ⟨rfl, rfl, rfl, by decide +kernel, rfl, by decide +kernel, by decide +kernel⟩
abbrev s_check_diagram : Stmt := topS 17
theorem sc_check_diagram : FnScope ["diagram"] ["diagram"] (defScope s_check_diagram) := ⟨rfl, rfl, rfl, by decide +kernel, rfl, by decide +kernel, by decide +kernel⟩
abbrev s_check_family : Stmt := topS 18
theorem sc_check_family : FnScope ["family"] ["family"] (defScope s_check_family) := ⟨rfl, rfl, rfl, by decide +kernel, rfl, by decide +kernel, by decide +kernel⟩
abbrev s_labels : Stmt := topS 19
theorem sc_labels : FnScope ["diagram", "n", "m", "blocks", "marks", "k", "block", "point", "_"] ["diagram"] (defScope s_labels) := ⟨rfl, rfl, rfl, by decide +kernel, rfl, by decide +kernel, by decide +kernel⟩
abbrev s_from_labels : Stmt := topS 20
theorem sc_from_labels : FnScope ["n", "m", "marks", "blocks", "point", "mark"] ["n", "m", "marks"] (defScope s_from_labels) := ⟨rfl, rfl, rfl, by decide +kernel, rfl, by decide +kernel, by decide +kernel⟩
abbrev s_is_in : Stmt := topS 21
theorem sc_is_in : FnScope ["family", "diagram", "n", "_", "blocks", "block"] ["family", "diagram"] (defScope s_is_in) := ⟨rfl, rfl, rfl, by decide +kernel, rfl, by decide +kernel, by decide +kernel⟩
abbrev s_is_block_of_ : Stmt := topS 22
theorem sc_is_block_of_ : FnScope ["family", "n", "block"] ["family", "n", "block"] (defScope s_is_block_of_) := ⟨rfl, rfl, rfl, by decide +kernel, rfl, by decide +kernel, by decide +kernel⟩
abbrev s_is_strand_ : Stmt := topS 23
theorem sc_is_strand_ : FnScope ["n", "block"] ["n", "block"] (defScope s_is_strand_) := ⟨rfl, rfl, rfl, by decide +kernel, rfl, by decide +kernel, by decide +kernel⟩
abbrev s_is_block_size_ : Stmt := topS 24
theorem sc_is_block_size_ : FnScope ["family", "size"] ["family", "size"] (defScope s_is_block_size_) := ⟨rfl, rfl, rfl, by decide +kernel, rfl, by decide +kernel, by decide +kernel⟩
abbrev s_counted : Stmt := topS 25
theorem sc_counted : FnScope ["family", "n", "m", "most", "t"] ["family", "n", "m"] (defScope s_counted) := ⟨rfl, rfl, rfl, by decide +kernel, rfl, by decide +kernel, by decide +kernel⟩
abbrev s_counted_by_last_ : Stmt := topS 26
theorem sc_counted_by_last_ : FnScope ["family", "size", "counts", "total", "j"] ["family", "size"] (defScope s_counted_by_last_) := ⟨rfl, rfl, rfl, by decide +kernel, rfl, by decide +kernel, by decide +kernel⟩
abbrev s_listed : Stmt := topS 27
theorem sc_listed : FnScope ["family", "n", "m", "many", "found", "row", "diagram"] ["family", "n", "m"] (defScope s_listed) := ⟨rfl, rfl, rfl, by decide +kernel, rfl, by decide +kernel, by decide +kernel⟩
abbrev s_label_rows_ : Stmt := topS 28
theorem sc_label_rows_ : FnScope ["family", "n", "m", "rows", "_", "row", "mark"] ["family", "n", "m"] (defScope s_label_rows_) := ⟨rfl, rfl, rfl, by decide +kernel, rfl, by decide +kernel, by decide +kernel⟩
abbrev s_may_follow_ : Stmt := topS 29
theorem sc_may_follow_ : FnScope ["family", "n", "row", "mark", "mates"] ["family", "n", "row", "mark"] (defScope s_may_follow_) := ⟨rfl, rfl, rfl, by decide +kernel, rfl, by decide +kernel, by decide +kernel⟩
abbrev s_is_world : Stmt := topS 34
theorem sc_is_world : FnScope ["world", "p", "d"] ["world"] (defScope s_is_world) := ⟨rfl, rfl, rfl, by decide +kernel, rfl, by decide +kernel, by decide +kernel⟩
abbrev s_check_world : Stmt := topS 35
theorem sc_check_world : FnScope ["world"] ["world"] (defScope s_check_world) := ⟨rfl, rfl, rfl, by decide +kernel, rfl, by decide +kernel, by decide +kernel⟩
abbrev s_is_number : Stmt := topS 36
theorem sc_is_number : FnScope ["world", "x", "p", "_", "a", "b"] ["world", "x"] (defScope s_is_number) := ⟨rfl, rfl, rfl, by decide +kernel, rfl, by decide +kernel, by decide +kernel⟩
abbrev s_check_number : Stmt := topS 37
theorem sc_check_number : FnScope ["world", "x"] ["world", "x"] (defScope s_check_number) := ⟨rfl, rfl, rfl, by decide +kernel, rfl, by decide +kernel, by decide +kernel⟩
abbrev s_number : Stmt := topS 38
theorem sc_number : FnScope ["world", "a", "b", "p", "_"] ["world", "a", "b"] (defScope s_number) := ⟨rfl, rfl, rfl, by decide +kernel, rfl, by decide +kernel, by decide +kernel⟩
abbrev s_lowest_ : Stmt := topS 39
theorem sc_lowest_ : FnScope ["a", "b", "shared"] ["a", "b"] (defScope s_lowest_) := ⟨rfl, rfl, rfl, by decide +kernel, rfl, by decide +kernel, by decide +kernel⟩
abbrev s_inverse_ : Stmt := topS 40
theorem sc_inverse_ : FnScope ["p", "b", "rest", "found"] ["p", "b"] (defScope s_inverse_) := ⟨rfl, rfl, rfl, by decide +kernel, rfl, by decide +kernel, by decide +kernel⟩
abbrev s_check_two_ : Stmt := topS 41
theorem sc_check_two_ : FnScope ["world", "x", "y"] ["world", "x", "y"] (defScope s_check_two_) := ⟨rfl, rfl, rfl, by decide +kernel, rfl, by decide +kernel, by decide +kernel⟩
abbrev s_times : Stmt := topS 42
theorem sc_times : FnScope ["world", "x", "y"] ["world", "x", "y"] (defScope s_times) := ⟨rfl, rfl, rfl, by decide +kernel, rfl, by decide +kernel, by decide +kernel⟩
abbrev s_power : Stmt := topS 43
theorem sc_power : FnScope ["world", "x", "count", "found", "_"] ["world", "x", "count"] (defScope s_power) := ⟨rfl, rfl, rfl, by decide +kernel, rfl, by decide +kernel, by decide +kernel⟩
abbrev s_loop_worth : Stmt := topS 44
theorem sc_loop_worth : FnScope ["world"] ["world"] (defScope s_loop_worth) := ⟨rfl, rfl, rfl, by decide +kernel, rfl, by decide +kernel, by decide +kernel⟩
abbrev s_loop_powers : Stmt := topS 45
theorem sc_loop_powers : FnScope ["world", "most", "count"] ["world", "most"] (defScope s_loop_powers) := ⟨rfl, rfl, rfl, by decide +kernel, rfl, by decide +kernel, by decide +kernel⟩
abbrev s_piece_marks : Stmt := topS 47
theorem sc_piece_marks : FnScope ["size", "groups", "parents", "group", "point", "low"] ["size", "groups"] (defScope s_piece_marks) := ⟨rfl, rfl, rfl, by decide +kernel, rfl, by decide +kernel, by decide +kernel⟩
abbrev s_root_ : Stmt := topS 48
theorem sc_root_ : FnScope ["parents", "point", "found"] ["parents", "point"] (defScope s_root_) := ⟨rfl, rfl, rfl, by decide +kernel, rfl, by decide +kernel, by decide +kernel⟩
abbrev s_piece_count : Stmt := topS 49
theorem sc_piece_count : FnScope ["size", "groups"] ["size", "groups"] (defScope s_piece_count) := ⟨rfl, rfl, rfl, by decide +kernel, rfl, by decide +kernel, by decide +kernel⟩
abbrev s_hidden_count : Stmt := topS 50
theorem sc_hidden_count : FnScope ["marks", "shown"] ["marks", "shown"] (defScope s_hidden_count) := ⟨rfl, rfl, rfl, by decide +kernel, rfl, by decide +kernel, by decide +kernel⟩
abbrev s_joined : Stmt := topS 52
theorem sc_joined : FnScope ["one", "other"] ["one", "other"] (defScope s_joined) := ⟨rfl, rfl, rfl, by decide +kernel, rfl, by decide +kernel, by decide +kernel⟩
abbrev s_joined_pieces : Stmt := topS 53
theorem sc_joined_pieces : FnScope ["one", "other"] ["one", "other"] (defScope s_joined_pieces) := ⟨rfl, rfl, rfl, by decide +kernel, rfl, by decide +kernel, by decide +kernel⟩
abbrev s_closings : Stmt := topS 54
theorem sc_closings : FnScope ["family", "n", "m", "diagrams", "table", "i", "one", "j", "other", "_"] ["family", "n", "m"] (defScope s_closings) := ⟨rfl, rfl, rfl, by decide +kernel, rfl, by decide +kernel, by decide +kernel⟩
abbrev s_worths : Stmt := topS 55
theorem sc_worths : FnScope ["world", "family", "n", "m", "table", "powers", "row", "k"] ["world", "family", "n", "m"] (defScope s_worths) := ⟨rfl, rfl, rfl, by decide +kernel, rfl, by decide +kernel, by decide +kernel⟩
abbrev s_put : Stmt := topS 57
theorem sc_put : FnScope ["one", "other", "n", "m", "upper", "k", "q", "lower", "groups", "marks", "shown", "block", "point"] ["one", "other"] (defScope s_put) := ⟨rfl, rfl, rfl, by decide +kernel, rfl, by decide +kernel, by decide +kernel⟩
abbrev s_over : Stmt := topS 58
theorem sc_over : FnScope ["diagram", "marks", "n", "m", "_"] ["diagram"] (defScope s_over) := ⟨rfl, rfl, rfl, by decide +kernel, rfl, by decide +kernel, by decide +kernel⟩
abbrev s_closing : Stmt := topS 59
theorem sc_closing : FnScope ["diagram", "loops", "_"] ["diagram"] (defScope s_closing) := ⟨rfl, rfl, rfl, by decide +kernel, rfl, by decide +kernel, by decide +kernel⟩
abbrev s_closed_end : Stmt := topS 60
theorem sc_closed_end : FnScope ["diagram", "count", "n", "m", "blocks", "above", "below", "groups", "marks", "shown", "k"] ["diagram", "count"] (defScope s_closed_end) := ⟨rfl, rfl, rfl, by decide +kernel, rfl, by decide +kernel, by decide +kernel⟩
abbrev s_law_number : Stmt := topS 62
theorem sc_law_number : FnScope ["cell"] ["cell"] (defScope s_law_number) := ⟨rfl, rfl, rfl, by decide +kernel, rfl, by decide +kernel, by decide +kernel⟩
abbrev s_law_draws : Stmt := topS 63
theorem sc_law_draws : FnScope ["script", "draws", "cell", "rest", "k", "once", "twice"] ["script"] (defScope s_law_draws) := ⟨rfl, rfl, rfl, by decide +kernel, rfl, by decide +kernel, by decide +kernel⟩
abbrev s_law_next : Stmt := topS 64
theorem sc_law_next : FnScope ["draws"] ["draws"] (defScope s_law_next) := ⟨rfl, rfl, rfl, by decide +kernel, rfl, by decide +kernel, by decide +kernel⟩
abbrev s_law_world : Stmt := topS 65
theorem sc_law_world : FnScope ["draws", "p"] ["draws"] (defScope s_law_world) := ⟨rfl, rfl, rfl, by decide +kernel, rfl, by decide +kernel, by decide +kernel⟩
abbrev s_law_times : Stmt := topS 66
theorem sc_law_times : FnScope ["world", "x", "y"] ["world", "x", "y"] (defScope s_law_times) := ⟨rfl, rfl, rfl, by decide +kernel, rfl, by decide +kernel, by decide +kernel⟩
abbrev s_law_power : Stmt := topS 67
theorem sc_law_power : FnScope ["world", "count", "result", "j"] ["world", "count"] (defScope s_law_power) := ⟨rfl, rfl, rfl, by decide +kernel, rfl, by decide +kernel, by decide +kernel⟩
abbrev s_law_marked : Stmt := topS 68
theorem sc_law_marked : FnScope ["n", "m", "marks", "known", "blocks", "at", "block"] ["n", "m", "marks"] (defScope s_law_marked) := ⟨rfl, rfl, rfl, by decide +kernel, rfl, by decide +kernel, by decide +kernel⟩
abbrev s_law_marks : Stmt := topS 69
theorem sc_law_marks : FnScope ["diagram", "marks", "number_v", "point"] ["diagram"] (defScope s_law_marks) := ⟨rfl, rfl, rfl, by decide +kernel, rfl, by decide +kernel, by decide +kernel⟩
abbrev s_law_belongs : Stmt := topS 70
theorem sc_law_belongs : FnScope ["family", "diagram", "n", "m", "blocks", "block", "crossing"] ["family", "diagram"] (defScope s_law_belongs) := ⟨rfl, rfl, rfl, by decide +kernel, rfl, by decide +kernel, by decide +kernel⟩
abbrev s_law_all : Stmt := topS 71
theorem sc_law_all : FnScope ["family", "n", "m", "rows", "j", "longer", "row", "found", "diagram", "label"] ["family", "n", "m"] (defScope s_law_all) := ⟨rfl, rfl, rfl, by decide +kernel, rfl, by decide +kernel, by decide +kernel⟩
abbrev s_law_glued : Stmt := topS 72
theorem sc_law_glued : FnScope ["marks", "pairs", "one", "other", "old", "mark"] ["marks", "pairs"] (defScope s_law_glued) := ⟨rfl, rfl, rfl, by decide +kernel, rfl, by decide +kernel, by decide +kernel⟩
abbrev s_law_kinds : Stmt := topS 73
theorem sc_law_kinds : FnScope ["marks", "kinds", "mark"] ["marks"] (defScope s_law_kinds) := ⟨rfl, rfl, rfl, by decide +kernel, rfl, by decide +kernel, by decide +kernel⟩
abbrev s_law_family : Stmt := topS 74
theorem sc_law_family : FnScope ["draws"] ["draws"] (defScope s_law_family) := ⟨rfl, rfl, rfl, by decide +kernel, rfl, by decide +kernel, by decide +kernel⟩
abbrev s_law_joined : Stmt := topS 75
theorem sc_law_joined : FnScope ["one", "other", "pairs", "block", "point"] ["one", "other"] (defScope s_law_joined) := ⟨rfl, rfl, rfl, by decide +kernel, rfl, by decide +kernel, by decide +kernel⟩
abbrev s_law_shape : Stmt := topS 76
theorem sc_law_shape : FnScope ["draws", "family", "n", "m"] ["draws"] (defScope s_law_shape) := ⟨rfl, rfl, rfl, by decide +kernel, rfl, by decide +kernel, by decide +kernel⟩
abbrev s_law_kind : Stmt := topS 77
theorem sc_law_kind : FnScope ["error", "kinds"] ["error"] (defScope s_law_kind) := ⟨rfl, rfl, rfl, by decide +kernel, rfl, by decide +kernel, by decide +kernel⟩
abbrev s_law_told : Stmt := topS 78
theorem sc_law_told : FnScope ["way", "world", "family", "n", "m", "error"] ["way", "world", "family", "n", "m"] (defScope s_law_told) := ⟨rfl, rfl, rfl, by decide +kernel, rfl, by decide +kernel, by decide +kernel⟩
abbrev s_law_pair : Stmt := topS 79
theorem sc_law_pair : FnScope ["one", "other", "error"] ["one", "other"] (defScope s_law_pair) := ⟨rfl, rfl, rfl, by decide +kernel, rfl, by decide +kernel, by decide +kernel⟩
abbrev s_law : Stmt := topS 80
theorem sc_law : FnScope ["script", "draws", "world", "family", "n", "m", "some", "one", "other", "table", "due", "parts", "told", "loops", "made", "bad", "longer", "way", "row", "count"] ["script"] (defScope s_law) := ⟨rfl, rfl, rfl, by decide +kernel, rfl, by decide +kernel, by decide +kernel⟩
section
variable {P : Program} {w : World} {K : PySem.W.Frag} {mg : Str → Option Value} {base : Heap}
theorem FunA.okXN {x qual : Str} {st : Stmt} {f : Addr} {fd : FuncData} {N ps : List Str} {k : Nat} {sp : Sp} (F : FunA K x qual st f fd) (S : FnScope N ps (defScope st)) (len : ∀ vs H Q E, sp vs H Q E → vs.length = ps.length)
    (hbody : ∀ (cdv : Value) (A : Around) (outer : List Env) (s : Shared) (H : Hp) (vs : List V) (Q : VK) (E : XK), Room k (A.deeper (envOfC qual (defScope st) s.heap.objs.size f cdv)) → sp vs H Q E →
      ∃ t, PSs (cxOf (L2N.CX P w) P w K mg base N qual (defScope st) f cdv A outer s H E) (defBody st) t ∧ t { nx := fun _ H' => Q .non H', rt := Q } (start N vs) H) : FnOk P w K mg base (L2N.CX P w) (k + 1) f fd ps sp := by
  obtain ⟨oc, od, dV, kV, doc, pm, an, cdv, ct, osl, rfl, lk, hcd⟩ := F.ex
  exact fn_of lk hcd S len fun A outer s H vs Q E hr hsp => hbody cdv A outer s H vs Q E hr hsp
end

structure SmL (n k : Nat) (D : PyData) : Prop where
  lay : D.canLay0 = true
  dep : D.depth ≤ n
  sho : D.showable = true
  wgt : wt D ≤ k
theorem smL_all {n k : Nat} : ∀ {ds : List PyData}, (∀ D ∈ ds, SmL n k D) → PyData.canLayAll0 ds = true ∧ PyData.depthAll ds ≤ n ∧ PyData.showableAll ds = true ∧ wtAll ds ≤ (k + 2) * ds.length
  | [], _ => ⟨by simp [PyData.canLayAll0], by simp [PyData.depthAll], by simp [PyData.showableAll], by simp [wtAll]⟩
  | D :: ds, h => by
    obtain ⟨h1, h2, h3, h4⟩ := smL_all (ds := ds) fun E hE => h E (List.mem_cons_of_mem _ hE)
    have g := h D List.mem_cons_self
    refine ⟨by simp [PyData.canLayAll0, g.lay, h1], ?_, by simp [PyData.showableAll, g.sho, h3], ?_⟩
    · simp only [PyData.depthAll]
      have := g.dep
      omega
    · simp only [wtAll, List.length_cons, Nat.mul_add]
      have := g.wgt
      omega
theorem smL_list {n k : Nat} {ds : List PyData} (h : ∀ D ∈ ds, SmL n k D) : SmL (n + 1) ((k + 2) * ds.length + 3) (.list ds) := by
  obtain ⟨h1, h2, h3, h4⟩ := smL_all h
  exact ⟨by simp [PyData.canLay0, h1], by simp only [PyData.depth]; omega, by simp [PyData.showable, h3], by simp only [wt]; omega⟩
theorem smL_tuple {n k : Nat} {ds : List PyData} (h : ∀ D ∈ ds, SmL n k D) : SmL (n + 1) ((k + 2) * ds.length + 3) (.tuple ds) := by
  obtain ⟨h1, h2, h3, h4⟩ := smL_all h
  exact ⟨by simp [PyData.canLay0, h1], by simp only [PyData.depth]; omega, by simp [PyData.showable, h3], by simp only [wt]; omega⟩
theorem SmL.shaped {n k : Nat} {D : PyData} (h : SmL n k D) (hn : n ≤ 64) : SeqAt.shaped D = true := by
  show (PyData.canLay0 D && decide (PyData.depth D ≤ 64)) = true
  rw [h.lay, decide_eq_true (Nat.le_trans h.dep hn)]
  rfl
theorem SmL.wide {n k : Nat} {D : PyData} (h : SmL n k D) (hk : k ≤ 16777216) : wt D ≤ sizeLine := by
  rw [sizeLine_eq]
  exact Nat.le_trans h.wgt hk
theorem small_log {i : Int} (h : i.natAbs < 2 ^ 200) : i.natAbs.log2 < 1920 := by
  by_cases e : i.natAbs = 0
  · rw [e]
    decide
  · exact (Nat.log2_lt e).mpr (Nat.lt_of_lt_of_le h (Nat.pow_le_pow_right (by decide) (by decide)))
theorem smL_int {i : Int} (h : i.natAbs < 2 ^ 200) : SmL 0 1921 (.int i) := ⟨by simp [PyData.canLay0], by simp [PyData.depth], by simp [PyData.showable, small_log h], by simp only [wt]; omega⟩
theorem smL_pair {u v : Int} (hu : u.natAbs < 2 ^ 200) (hv : v.natAbs < 2 ^ 200) : SmL 1 4000 (.tuple [.int u, .int v]) := by
  have h := smL_tuple (ds := [.int u, .int v]) (n := 0) (k := 1921) fun D hD => by
    rcases List.mem_cons.mp hD with rfl | hD
    · exact smL_int hu
    · rcases List.mem_cons.mp hD with rfl | hD
      · exact smL_int hv
      · cases hD
  exact ⟨h.lay, h.dep, h.sho, Nat.le_trans h.wgt (by show (1921 + 2) * 2 + 3 ≤ 4000; decide)⟩
theorem ok_n : PyData.strOk ("!n" : Str) = true := by decide +kernel
theorem ok_b : PyData.strOk ("!b" : Str) = true := by decide +kernel
theorem ok_w : PyData.strOk ("!w" : Str) = true := by decide +kernel
theorem rl_n : (reprText ("!n" : Str)).length = 4 := by decide +kernel
theorem rl_b : (reprText ("!b" : Str)).length = 4 := by decide +kernel
theorem rl_w : (reprText ("!w" : Str)).length = 4 := by decide +kernel
theorem smL_n : SmL 1 4000 (.str "!n") := ⟨by simp [PyData.canLay0, ok_n], by simp [PyData.depth], by simp [PyData.showable], by simp only [wt, rl_n]; omega⟩
theorem smL_b : SmL 1 4000 (.str "!b") := ⟨by simp [PyData.canLay0, ok_b], by simp [PyData.depth], by simp [PyData.showable], by simp only [wt, rl_b]; omega⟩
theorem smL_w : SmL 1 4000 (.str "!w") := ⟨by simp [PyData.canLay0, ok_w], by simp [PyData.depth], by simp [PyData.showable], by simp only [wt, rl_w]; omega⟩
theorem smL_non : SmL 1 4000 .none := ⟨by simp [PyData.canLay0], by simp [PyData.depth], by simp [PyData.showable], by simp only [wt]; omega⟩
theorem smL_bool (b : Bool) : SmL 1 4000 (.bool b) := ⟨by simp [PyData.canLay0], by simp [PyData.depth], by simp [PyData.showable], by simp only [wt]; omega⟩

section
variable {P : Program} {w : World} {K : PySem.W.Frag} {mg : Str → Option Value} {base : Heap}
/-! ### is_world -/
def spIsWorld (K : PySem.W.Frag) : Sp := fun vs H Q _ => ∃ (a : Addr) (p d : Int), vs = [.ref a] ∧ SqT K H a [.int p, .int d] ∧ Q (.bl (isW p d)) H
theorem ok_is_world {f : Addr} {fd : FuncData} {aP : Addr} (F : Fun K "is_world" "is_world" s_is_world f fd) (m_PRIMES : mg "PRIMES" = some (.ref aP)) (tP : ∀ H, SqT K H aP (primes.map V.int)) :
    FnOk P w K mg base CX0 1 f fd ["world"] (spIsWorld K) := by
  have r_PRIMES : RelV (.ref aP) (.ref aP) := rfl
  refine F.ok sc_is_world (fun vs H Q E h => ?_) (fun cdv A outer s H vs Q E hr h => ?_)
  · obtain ⟨a, p, d, rfl, _⟩ := h
    rfl
  · obtain ⟨a, p, d, rfl, hS, q⟩ := h
    refine ⟨_, (pss_cons (ps_asg (pv 0) (pg_tup rfl (pgs_cons (pg_name (i := 1) sc_is_world.nd rfl (.inl rfl)) (pgs_cons (pg_name (i := 2) sc_is_world.nd rfl (.inl rfl)) pgs_nil))))
  (pss_cons (ps_if (pt_cmpR op_eq (pv 1) pe_int (nomark _)) (pss_one (ps_ret (pe_chain op_le op_le (pe_un un_neg pe_int) (pv 2) pe_int))) pss_nil)
  (pss_one (ps_ret (pe_and (pe_cmpR op_in_seq (pv 1) (pe_glob rfl m_PRIMES r_PRIMES) (by with_unfolding_all rfl)) (pe_one (pe_chain op_le op_lt pe_int (pv 2) (pv 1)))))))), ?_⟩
    refine ⟨_, rfl, a, _, rfl, hS, rfl, _, _, rfl, _, _, rfl, rfl, ?_⟩
    refine ⟨_, rfl, rfl, _, rfl, ite2 (fun e => ?_) (fun e => ?_)⟩
    · have e0 : p = 0 := V.int.inj (of_decide_eq_true e)
      have ew : isW p d = if -20 ≤ d then decide (d ≤ 20) else false := if_pos e0
      rw [ew] at q
      refine ⟨_, rfl, _, rfl, _, _, rfl, rfl, _, rfl, ite2 (fun e1 => ?_) (fun e1 => ?_)⟩
      · rw [if_pos (of_decide_eq_true e1)] at q
        exact ⟨_, _, rfl, rfl, q⟩
      · rw [if_neg (fun z => e1 (decide_eq_true z))] at q
        exact q
    · have e0 : p ≠ 0 := fun z => e (decide_eq_true (congrArg V.int z))
      have ew : isW p d = (if inV (.int p) (primes.map V.int) = true then (if 0 ≤ d then decide (d < p) else false) else false) := if_neg e0
      rw [ew] at q
      refine ⟨_, rfl, aP, _, rfl, .inr (tP _), rfl, by decide, _, rfl, ite2 (fun e1 => ?_) (fun e1 => ?_)⟩
      · have e1' : inV (.int p) (primes.map V.int) = true := e1
        rw [if_pos e1'] at q
        refine ⟨_, rfl, _, _, rfl, rfl, _, rfl, ite2 (fun e2 => ?_) (fun e2 => ?_)⟩
        · rw [if_pos (of_decide_eq_true e2)] at q
          exact ⟨_, rfl, _, _, rfl, rfl, q⟩
        · rw [if_neg (fun z => e2 (decide_eq_true z))] at q
          exact q
      · have e1' : ¬ inV (.int p) (primes.map V.int) = true := e1
        rw [if_neg e1'] at q
        have e2 : inV (.int p) (primes.map V.int) = false := Bool.eq_false_iff.mpr e1'
        exact q
end

section
variable {P : Program} {w : World} {K : PySem.W.Frag} {mg : Str → Option Value} {base : Heap}
/-! ### _law_number -/
def spPlain : Sp := fun vs H Q _ => ∃ n : Int, vs = [.int n] ∧ Q (.int (if n < 0 then -n else n)) H
theorem ok_plain {f : Addr} {fd : FuncData} (F : Fun K "_law_number" "_law_number" s_law_number f fd) : FnOk P w K mg base CX0 1 f fd ["cell"] spPlain := by
  refine F.ok sc_law_number (fun vs H Q E h => ?_) (fun cdv A outer s H vs Q E hr h => ?_)
  · obtain ⟨n, rfl, _⟩ := h
    rfl
  · obtain ⟨n, rfl, q⟩ := h
    refine ⟨_, (pss_cons (ps_if (pt_cmpR op_lt (pv 0) pe_int (nomark _)) (pss_one (ps_ret (pe_op op_sub pe_int (pv 0)))) pss_nil)
  (pss_one (ps_ret (pv 0))))
    , ?_⟩
    refine ⟨_, rfl, _, _, rfl, rfl, _, rfl, ite2 (fun e => ?_) (fun e => ?_)⟩
    · rw [if_pos (of_decide_eq_true e)] at q
      have q' : Q (.int (0 - n)) H := by
        rw [show (0 : Int) - n = -n by omega]
        exact q
      exact ⟨_, rfl, _, _, rfl, rfl, q'⟩
    · rw [if_neg (fun z => e (decide_eq_true z))] at q
      exact ⟨_, rfl, q⟩
end

section
variable {P : Program} {w : World} {K : PySem.W.Frag} {mg : Str → Option Value} {base : Heap}
/-! ### _law_next -/
def spNext : Sp := fun vs H Q _ => ∃ (a : Addr) (ds : List Int), vs = [.ref a] ∧ H a = some (.lst (ds.map V.int)) ∧ ∀ (n : Int) (ds' : List Int), Q (.int n) (upd H a (.lst (ds'.map V.int)))
theorem ok_next {f : Addr} {fd : FuncData} (F : Fun K "_law_next" "_law_next" s_law_next f fd) : FnOk P w K mg base CX0 1 f fd ["draws"] spNext := by
  refine F.ok sc_law_next (fun vs H Q E h => ?_) (fun cdv A outer s H vs Q E hr h => ?_)
  · obtain ⟨a, ds, rfl, _⟩ := h
    rfl
  · obtain ⟨a, ds, rfl, hL, q⟩ := h
    refine ⟨_, (pss_cons (ps_if (pt_truth (pv 0) (by intro _; rfl)) (pss_one (ps_ret (pe_bm0 PySem.F.plainAttrs_list PySem.F.slot_list_pop PySem.F.type_list_pop mt_pop (pv 0)))) pss_nil)
  (pss_one (ps_ret pe_int)))
    , ?_⟩
    refine ⟨_, rfl, _, .inl ⟨_, .inl (.inl hL), rfl⟩, ite2 (fun e => ?_) (fun e => ?_)⟩
    · have hn : ds ≠ [] := fun z => by subst z; cases e
      have hm : ds.map V.int = ds.dropLast.map V.int ++ [V.int (ds.getLast hn)] := by
        rw [← List.map_singleton, ← List.map_append, List.dropLast_concat_getLast]
      refine ⟨_, rfl, .inl ⟨rfl, _, .inl (.inl hL)⟩, a, _, .int (ds.getLast hn), rfl, rfl, hL, ?_, ?_⟩
      · rw [hm]; simp
      · rw [hm, List.dropLast_concat]
        exact q _ _
    · have := q 0 ds
      rw [upd_self hL] at this
      exact this
end

section
variable {P : Program} {w : World} {K : PySem.W.Frag} {mg : Str → Option Value} {base : Heap}
/-! ### _law_draws -/
def spDraws (K : PySem.W.Frag) : Sp := fun vs H Q _ => ∃ (a : Addr) (ns : List Int), vs = [.ref a] ∧ SqL K H a (ns.map V.int) ∧ ns.length ≤ 63 ∧
  ∀ H' r (ds : List Int), Same H H' → H r = none → H' r = some (.lst (ds.map V.int)) → Q (.ref r) H'
theorem ok_draws {f : Addr} {fd : FuncData} {a_law_number : Addr} {fd_law_number : FuncData} (F : Fun K "_law_draws" "_law_draws" s_law_draws f fd) (z_range : mg "range" = none) (z_int : mg "int" = none)
    (G_law_number : FnOk P w K mg base CX0 1 a_law_number fd_law_number ["cell"] spPlain) (g_law_number : mg "_law_number" = some (.ref a_law_number)) (k_law_number : PySem.W.keepIn K (.ref a_law_number) = true) (b_law_number : Binds K fd_law_number ["cell"] []) :
    FnOk P w K mg base CX0 2 f fd ["script"] (spDraws K) := by
  refine F.ok sc_law_draws (fun vs H Q E h => ?_) (fun cdv A outer s H vs Q E hr h => ?_)
  · obtain ⟨n, _, rfl, _⟩ := h
    rfl
  · obtain ⟨a, ns, rfl, hS, hlen, q⟩ := h
    refine ⟨_, (pss_cons (ps_set (i := 1) sc_law_draws.nd rfl (.inl rfl) (pe_lst pa_nil))
  (pss_cons (ps_for PassesOwn.never rfl (pi_list (pv 0)) (pg_name (i := 2) sc_law_draws.nd rfl (.inl rfl)) (pss_cons (ps_set (i := 3) sc_law_draws.nd rfl (.inl rfl) (pe_call G_law_number (hr.mono (by decide)) rfl g_law_number k_law_number b_law_number .nil pass0 (pa_cons (pv 2) pa_nil)))
  (pss_one (ps_if (pt_cmpR op_ge (pv 3) pe_int (nomark _)) (pss_one (ps_for PassesOwn.never rfl (pi_range1 rfl z_range (pa_cons pe_int pa_nil)) (pg_name (i := 4) sc_law_draws.nd rfl (.inl rfl)) (pss_cons (ps_if (pt_cmpR op_eq (pv 3) pe_int (nomark _)) (pss_one ps_break) pss_nil)
  (pss_cons (ps_expr (pe_bm PySem.F.plainAttrs_list PySem.F.slot_list_append PySem.F.type_list_append mt_append (pv 1) (pa_cons (pe_op op_mod (pe_callTy call_int1 (by rfl) z_int boot_int (pa_cons (pv 3) pa_nil)) pe_int) pa_nil)))
  (pss_one (ps_set (i := 3) sc_law_draws.nd rfl (.inl rfl) (pe_op op_fdiv (pv 3) pe_int))))))) (pss_cons (ps_set (i := 5) sc_law_draws.nd rfl (.inl rfl) (pe_op op_mod (pe_callTy call_int1 (by rfl) z_int boot_int (pa_cons (pe_op op_add (pe_op op_mul (pv 3) pe_int) pe_int) pa_nil)) pe_int))
  (pss_cons (ps_set (i := 6) sc_law_draws.nd rfl (.inl rfl) (pe_op op_mod (pe_callTy call_int1 (by rfl) z_int boot_int (pa_cons (pe_op op_add (pe_op op_mul (pv 5) pe_int) (pv 3)) pa_nil)) pe_int))
  (pss_one (ps_expr (pe_bm PySem.F.plainAttrs_list PySem.F.slot_list_extend PySem.F.type_list_extend mt_extend (pv 1) (pa_cons (pe_lst (pa_cons (pe_op op_mod (pe_callTy call_int1 (by rfl) z_int boot_int (pa_cons (pv 3) pa_nil)) pe_int) (pa_cons (pe_op op_mod (pe_callTy call_int1 (by rfl) z_int boot_int (pa_cons (pv 5) pa_nil)) pe_int) (pa_cons (pe_op op_mod (pe_callTy call_int1 (by rfl) z_int boot_int (pa_cons (pv 6) pa_nil)) pe_int) pa_nil)))) pa_nil))))))))))
  (pss_one (ps_ret (pv 1)))))
    , ?_⟩
    refine ⟨Nat.zero_le _, fun o no => ?_⟩
    have s1 : Same H (upd H o (.lst [])) := same_upd no
    refine ⟨.ref a, rfl, a, rfl, ⟨_, s1.seq hS⟩, for_list (K := K) (a := a) (xs := ns.map V.int) (fun i σ H' => ∃ v2 v3 v4 v5 v6 ds, σ = [some (.ref a), some (.ref o), v2, v3, v4, v5, v6] ∧ Same H H' ∧ H' o = some (.lst (ds.map V.int)) ∧ ds.length ≤ 60 * i)
      ⟨none, none, none, none, none, [], rfl, s1, upd_same, Nat.le_refl _⟩ (fun i σ H' _ ⟨_, _, _, _, _, _, _, sm, _⟩ => sm.seq hS) ?_ ?_⟩
    · rintro i y σ H1 hi ⟨v2, v3, v4, v5, v6, ds, rfl, sm, hL, hl⟩
      have hi63 : i < 63 := by
        have := (List.getElem?_eq_some_iff.mp hi).1
        rw [List.length_map] at this
        omega
      obtain ⟨z, hz, rfl⟩ := map_int_get hi
      refine ⟨_, rfl, z, rfl, ?_⟩
      generalize hr0 : (if z < 0 then -z else z) = r0
      have h0 : 0 ≤ r0 := by
        subst hr0
        split <;> omega
      refine ⟨_, rfl, _, _, rfl, rfl, _, rfl, ite2 (fun e => ?_) (fun e => ?_)⟩
      · refine ⟨60, rfl, by decide, by decide, for_range (lo := 0) (n := 60) (fun j σ H' => ∃ r v4 ds', σ = [some (.ref a), some (.ref o), some (.int z), some (.int r), v4, v5, v6] ∧ 0 ≤ r ∧ Same H H' ∧ H' o = some (.lst (ds'.map V.int)) ∧ ds'.length ≤ 60 * i + j)
          ⟨r0, v4, ds, rfl, h0, sm, hL, hl⟩ ?_ ?_⟩
        · rintro j σ H2 hj ⟨r, v4', ds', rfl, hr0', sm2, hL2, hl2⟩
          refine ⟨_, rfl, rfl, _, rfl, ite2 (fun e1 => ?_) (fun e1 => ?_)⟩
          · exact ⟨_, _, _, _, _, ds', rfl, sm2, hL2, by omega⟩
          · refine ⟨.ref o, rfl, .inl ⟨rfl, _, .inl (.inl hL2)⟩, .int r, rfl, .inl ⟨r, rfl, r, 1000, rfl, rfl, (show (0:Int) < 1000 by decide), o, _, _, rfl, rfl, hL2, ?_, ?_⟩⟩
            · rw [List.length_map]
              exact small_of (by omega)
            · refine ⟨_, rfl, r, 1000, rfl, rfl, ⟨by decide, by decide⟩, ?_⟩
              refine ⟨r / 1000, _, ds' ++ [r % 1000], rfl, by omega, Same.mut sm2 no, ?_, ?_⟩
              · rw [upd_same, List.map_append]
                rfl
              · rw [List.length_append]
                show ds'.length + 1 ≤ _
                omega
        · rintro σ H2 ⟨r, v4', ds', rfl, hr0', sm2, hL2, hl2⟩
          exact ⟨_, _, _, _, _, ds', rfl, sm2, hL2, by omega⟩
      · have c1 : CMul r0 48271 := .inr ⟨by decide, by decide⟩
        refine ⟨.int r0, rfl, r0, 48271, rfl, rfl, c1, _, 11, rfl, rfl, .inl ⟨_, rfl, _, 2147483647, rfl, rfl, (show (0:Int) < 2147483647 by decide), ?_⟩⟩
        have c2 : ∀ x : Int, CMul x 69621 := fun _ => .inr ⟨by decide, by decide⟩
        refine ⟨_, rfl, _, 69621, rfl, rfl, c2 _, .int r0, rfl, _, r0, rfl, rfl, .inl ⟨_, rfl, _, 2147483629, rfl, rfl, (show (0:Int) < 2147483629 by decide), ?_⟩⟩
        have p1000 : (0:Int) < 1000 := by decide
        refine ⟨.ref o, rfl, .inl ⟨rfl, _, .inl (.inl hL)⟩, ?_⟩
        refine ⟨.int r0, rfl, .inl ⟨r0, rfl, r0, 1000, rfl, rfl, p1000, _, rfl, .inl ⟨_, rfl, _, 1000, rfl, rfl, p1000, _, rfl, .inl ⟨_, rfl, _, 1000, rfl, rfl, p1000, ?_⟩⟩⟩⟩
        refine ⟨(by show 3 ≤ sizeLine; decide), fun c nc => ?_⟩
        have hoc : o ≠ c := ne_of_none hL nc
        refine ⟨o, c, ds.map V.int, _, rfl, rfl, ?_, upd_same, ?_, ?_⟩
        · rw [upd_ne hoc]
          exact hL
        · rw [List.length_map]
          exact Nat.le_of_lt (small_of (show ds.length + 3 ≤ 100000 by omega))
        · refine ⟨_, _, _, _, _, ds ++ [r0 % 1000, (r0 * 48271 + 11) % 2147483647 % 1000, ((r0 * 48271 + 11) % 2147483647 * 69621 + r0) % 2147483629 % 1000], rfl, Same.mut (Same.trans sm (same_upd nc)) no, ?_, ?_⟩
          · rw [upd_same, List.map_append]
            rfl
          · rw [List.length_append]
            show ds.length + 3 ≤ _
            omega
    · rintro σ H1 ⟨v2, v3, v4, v5, v6, ds, rfl, sm, hL, hl⟩
      exact ⟨_, rfl, q H1 o ds sm no hL⟩
end

section
variable {P : Program} {w : World} {K : PySem.W.Frag} {mg : Str → Option Value} {base : Heap}
/-! ### check_world -/
def spCheckWorld (K : PySem.W.Frag) (CW : Addr) : Sp := fun vs H Q E => ∃ (a : Addr) (p d : Int), vs = [.ref a] ∧ SqT K H a [.int p, .int d] ∧ (isW p d = true → Q .non H) ∧ (isW p d = false → E (.ref CW) none H)
theorem ok_check_world {f CW a_is_world : Addr} {fd fd_is_world : FuncData} (F : Fun K "check_world" "check_world" s_check_world f fd) (T : ErrC K mg "NotWorld" CW)
    (G_is_world : FnOk P w K mg base CX0 1 a_is_world fd_is_world ["world"] (spIsWorld K)) (g_is_world : mg "is_world" = some (.ref a_is_world)) (k_is_world : PySem.W.keepIn K (.ref a_is_world) = true) (b_is_world : Binds K fd_is_world ["world"] []) :
    FnOk P w K mg base (L2N.CX P w) 2 f fd ["world"] (spCheckWorld K CW) := by
  obtain ⟨gc_NotWorld, x_NotWorld, kc_NotWorld, bc_NotWorld, tc_NotWorld⟩ := T
  refine F.okXN sc_check_world (fun vs H Q E h => ?_) (fun cdv A outer s H vs Q E hr h => ?_)
  · obtain ⟨a, p, d, rfl, _⟩ := h
    rfl
  · obtain ⟨a, p, d, rfl, hS, q1, q2⟩ := h
    refine ⟨_, (pss_one (ps_if (pt_not (pt_val (pe_call G_is_world (hr.mono (by decide)) rfl g_is_world k_is_world b_is_world .nil pass0 (pa_cons (pv 0) pa_nil)))) (pss_one (L2N.ps_raise rfl (L2N.takes_of rfl rfl rfl rfl) (L2N.pmk_own PySem.F.excBase_ValueError x_NotWorld gc_NotWorld kc_NotWorld (raises_own bc_NotWorld tc_NotWorld) rfl))) pss_nil))
    , ?_⟩
    refine ⟨_, rfl, a, p, d, rfl, hS, _, rfl, ?_⟩
    cases e : isW p d with
    | true => exact iteF (q1 e)
    | false => exact iteT (q2 e)
end

section
variable {P : Program} {w : World} {K : PySem.W.Frag} {mg : Str → Option Value} {base : Heap}
/-! ### is_number -/
def isN (p u v : Int) : Bool := if p = 0 then (if 1 ≤ v then decide (gI u v = 1) else false) else (if v = 1 then (if 0 ≤ u then decide (u < p) else false) else false)
def spIsNumber (K : PySem.W.Frag) (CW : Addr) : Sp := fun vs H Q E => ∃ (a x : Addr) (p d u v : Int), vs = [.ref a, .ref x] ∧ SqT K H a [.int p, .int d] ∧ SqT K H x [.int u, .int v] ∧ (isW p d = true → Q (.bl (isN p u v)) H) ∧ (isW p d = false → E (.ref CW) none H)
theorem ok_is_number {f CW a_check_world : Addr} {fd fd_check_world : FuncData} (F : Fun K "is_number" "is_number" s_is_number f fd) (m_gcd : mg "gcd" = some (.builtin "math.gcd"))
    (G_check_world : FnOk P w K mg base (L2N.CX P w) 2 a_check_world fd_check_world ["world"] (spCheckWorld K CW)) (g_check_world : mg "check_world" = some (.ref a_check_world)) (k_check_world : PySem.W.keepIn K (.ref a_check_world) = true) (b_check_world : Binds K fd_check_world ["world"] []) :
    FnOk P w K mg base (L2N.CX P w) 3 f fd ["world", "x"] (spIsNumber K CW) := by
  refine F.okXN sc_is_number (fun vs H Q E h => ?_) (fun cdv A outer s H vs Q E hr h => ?_)
  · obtain ⟨a, x, p, d, u, v, rfl, _⟩ := h
    rfl
  · obtain ⟨a, x, p, d, u, v, rfl, hS, hX, q1, q2⟩ := h
    refine ⟨_, (pss_cons (ps_expr (pe_call G_check_world (hr.mono (by decide)) rfl g_check_world k_check_world b_check_world .nil (L2N.passes_call (L2N.takes_of rfl rfl rfl rfl) (fun _ _ _ _ h => h)) (pa_cons (pv 0) pa_nil)))
  (pss_cons (ps_asg (pv 0) (pg_tup rfl (pgs_cons (pg_name (i := 2) sc_is_number.nd rfl (.inl rfl)) (pgs_cons (pg_name (i := 3) sc_is_number.nd rfl (.inl rfl)) pgs_nil))))
  (pss_cons (ps_asg (pv 1) (pg_tup rfl (pgs_cons (pg_name (i := 4) sc_is_number.nd rfl (.inl rfl)) (pgs_cons (pg_name (i := 5) sc_is_number.nd rfl (.inl rfl)) pgs_nil))))
  (pss_cons (ps_if (pt_cmpR op_eq (pv 2) pe_int (nomark _)) (pss_one (ps_ret (pe_and (pe_cmpR op_ge (pv 5) pe_int (nomark _)) (pe_one (pe_cmpR op_eq (pe_callBfun cr_gcd rfl m_gcd (pa_cons (pv 4) (pa_cons (pv 5) pa_nil))) pe_int (nomark _)))))) pss_nil)
  (pss_one (ps_ret (pe_and (pe_cmpR op_eq (pv 5) pe_int (nomark _)) (pe_one (pe_chain op_le op_lt pe_int (pv 4) (pv 2))))))))))
    , ?_⟩
    refine ⟨_, rfl, a, p, d, rfl, hS, fun ew => ?_, q2⟩
    have q := q1 ew
    refine ⟨_, rfl, a, _, rfl, hS, rfl, _, _, rfl, _, _, rfl, rfl, ?_⟩
    refine ⟨_, rfl, x, _, rfl, hX, rfl, _, _, rfl, _, _, rfl, rfl, ?_⟩
    refine ⟨_, rfl, rfl, _, rfl, ite2 (fun e => ?_) (fun e => ?_)⟩
    · have e0 : p = 0 := V.int.inj (of_decide_eq_true e)
      have ew : isN p u v = if 1 ≤ v then decide (gI u v = 1) else false := if_pos e0
      rw [ew] at q
      refine ⟨_, rfl, _, _, rfl, rfl, _, rfl, ite2 (fun e1 => ?_) (fun e1 => ?_)⟩
      · rw [if_pos (of_decide_eq_true e1)] at q
        have q' : Q (.bl (decide (V.int (gI u v) = V.int 1))) H := by
          rw [show decide (V.int (gI u v) = V.int 1) = decide (gI u v = 1) from decide_eq_decide.mpr ⟨V.int.inj, congrArg V.int⟩]
          exact q
        exact ⟨_, rfl, _, rfl, u, v, rfl, rfl, q'⟩
      · rw [if_neg (fun z => e1 (decide_eq_true z))] at q
        exact q
    · have e0 : p ≠ 0 := fun z => e (decide_eq_true (congrArg V.int z))
      have ew : isN p u v = (if v = 1 then (if 0 ≤ u then decide (u < p) else false) else false) := if_neg e0
      rw [ew] at q
      refine ⟨_, rfl, rfl, _, rfl, ite2 (fun e1 => ?_) (fun e1 => ?_)⟩
      · rw [if_pos (V.int.inj (of_decide_eq_true e1))] at q
        refine ⟨_, rfl, _, _, rfl, rfl, _, rfl, ite2 (fun e2 => ?_) (fun e2 => ?_)⟩
        · rw [if_pos (of_decide_eq_true e2)] at q
          exact ⟨_, rfl, _, _, rfl, rfl, q⟩
        · rw [if_neg (fun z => e2 (decide_eq_true z))] at q
          exact q
      · rw [if_neg (fun z => e1 (decide_eq_true (congrArg V.int z)))] at q
        exact q
end

section
variable {P : Program} {w : World} {K : PySem.W.Frag} {mg : Str → Option Value} {base : Heap}
/-! ### check_number -/
def spCheckNumber (K : PySem.W.Frag) (CW CN : Addr) : Sp := fun vs H Q E => ∃ (a x : Addr) (p d u v : Int), vs = [.ref a, .ref x] ∧ SqT K H a [.int p, .int d] ∧ SqT K H x [.int u, .int v] ∧
  (isW p d = true → isN p u v = true → Q .non H) ∧ (isW p d = true → isN p u v = false → E (.ref CN) none H) ∧ (isW p d = false → E (.ref CW) none H)
theorem ok_check_number {f CW CN a_is_number : Addr} {fd fd_is_number : FuncData} (F : Fun K "check_number" "check_number" s_check_number f fd) (T : ErrC K mg "NotNumber" CN)
    (G_is_number : FnOk P w K mg base (L2N.CX P w) 3 a_is_number fd_is_number ["world", "x"] (spIsNumber K CW)) (g_is_number : mg "is_number" = some (.ref a_is_number)) (k_is_number : PySem.W.keepIn K (.ref a_is_number) = true) (b_is_number : Binds K fd_is_number ["world", "x"] []) :
    FnOk P w K mg base (L2N.CX P w) 4 f fd ["world", "x"] (spCheckNumber K CW CN) := by
  obtain ⟨gc_NotNumber, x_NotNumber, kc_NotNumber, bc_NotNumber, tc_NotNumber⟩ := T
  refine F.okXN sc_check_number (fun vs H Q E h => ?_) (fun cdv A outer s H vs Q E hr h => ?_)
  · obtain ⟨a, x, p, d, u, v, rfl, _⟩ := h
    rfl
  · obtain ⟨a, x, p, d, u, v, rfl, hS, hX, q1, q2, q3⟩ := h
    refine ⟨_, (pss_one (ps_if (pt_not (pt_val (pe_call G_is_number (hr.mono (by decide)) rfl g_is_number k_is_number b_is_number .nil (L2N.passes_call (L2N.takes_of rfl rfl rfl rfl) (fun _ _ _ _ h => h)) (pa_cons (pv 0) (pa_cons (pv 1) pa_nil))))) (pss_one (L2N.ps_raise rfl (L2N.takes_of rfl rfl rfl rfl) (L2N.pmk_own PySem.F.excBase_ValueError x_NotNumber gc_NotNumber kc_NotNumber (raises_own bc_NotNumber tc_NotNumber) rfl))) pss_nil))
    , ?_⟩
    refine ⟨_, rfl, _, rfl, a, x, p, d, u, v, rfl, hS, hX, fun ew => ?_, q3⟩
    refine ⟨_, rfl, ?_⟩
    cases e : isN p u v with
    | true => exact iteF (q1 ew e)
    | false => exact iteT (q2 ew e)
end

section
variable {P : Program} {w : World} {K : PySem.W.Frag} {mg : Str → Option Value} {base : Heap}
/-! ### _lowest -/
def spLowest : Sp := fun vs H Q _ => ∃ a b : Int, vs = [.int a, .int b] ∧ b ≠ 0 ∧ b.natAbs < 1073741824 ∧ ∀ r, H r = none → Q (.ref r) (upd H r (.tup [.int (low a b).1, .int (low a b).2]))
theorem ok_lowest {f : Addr} {fd : FuncData} (F : Fun K "_lowest" "_lowest" s_lowest_ f fd) (m_gcd : mg "gcd" = some (.builtin "math.gcd")) : FnOk P w K mg base CX0 1 f fd ["a", "b"] spLowest := by
  refine F.ok sc_lowest_ (fun vs H Q E h => ?_) (fun cdv A outer s H vs Q E hr h => ?_)
  · obtain ⟨a, b, rfl, _⟩ := h
    rfl
  · obtain ⟨a, b, rfl, hb, hl, q⟩ := h
    have hg := gI_pos (a := a) hb
    have hg2 := gI_le (a := a) hb
    refine ⟨_, (pss_cons (ps_set (i := 2) sc_lowest_.nd rfl (.inl rfl) (pe_callBfun cr_gcd rfl m_gcd (pa_cons (pv 0) (pa_cons (pv 1) pa_nil))))
  (pss_cons (ps_if (pt_cmpR op_lt (pv 1) pe_int (nomark _)) (pss_one (ps_set (i := 2) sc_lowest_.nd rfl (.inl rfl) (pe_un un_neg (pv 2)))) pss_nil)
  (pss_one (ps_ret (pe_tup (pa_cons (pe_op op_fdivN (pv 0) (pv 2)) (pa_cons (pe_op op_fdivN (pv 1) (pv 2)) pa_nil)))))))
    , ?_⟩
    refine ⟨_, rfl, _, rfl, a, b, rfl, ?_⟩
    refine ⟨_, rfl, _, _, rfl, rfl, _, rfl, ite2 (fun e => ?_) (fun e => ?_)⟩
    · have e0 : b < 0 := of_decide_eq_true e
      have c : CDivN a (-gI a b) := ⟨by omega, by omega⟩
      refine ⟨_, rfl, _, rfl, ?_⟩
      refine ⟨_, rfl, _, rfl, a, -gI a b, rfl, rfl, c, _, rfl, _, rfl, b, -gI a b, rfl, rfl, c, (by show 2 ≤ sizeLine; decide), fun r nr => ?_⟩
      have h1 := q r nr
      unfold low at h1
      rw [if_pos e0] at h1
      rw [← fdiv_negg a _ (Int.le_of_lt hg), ← fdiv_negg b _ (Int.le_of_lt hg)] at h1
      exact h1
    · have e0 : ¬ b < 0 := fun z => e (decide_eq_true z)
      have c : CDivN a (gI a b) := ⟨by omega, by omega⟩
      refine ⟨_, rfl, _, rfl, a, gI a b, rfl, rfl, c, _, rfl, _, rfl, b, gI a b, rfl, rfl, c, (by show 2 ≤ sizeLine; decide), fun r nr => ?_⟩
      have h1 := q r nr
      unfold low at h1
      rw [if_neg e0] at h1
      rw [← Int.fdiv_eq_ediv_of_nonneg a (Int.le_of_lt hg), ← Int.fdiv_eq_ediv_of_nonneg b (Int.le_of_lt hg)] at h1
      exact h1
end

section
variable {P : Program} {w : World} {K : PySem.W.Frag} {mg : Str → Option Value} {base : Heap}
/-! ### _inverse -/
def spInverse : Sp := fun vs H Q _ => ∃ p b : Int, vs = [.int p, .int b] ∧ p ∈ primes ∧ b % p ≠ 0 ∧ ∀ k, 1 ≤ k → k < p → k * (b % p) % p = 1 → Q (.int k) H
theorem ok_inverse {f : Addr} {fd : FuncData} (F : Fun K "_inverse" "_inverse" s_inverse_ f fd) : FnOk P w K mg base CX0 1 f fd ["p", "b"] spInverse := by
  refine F.ok sc_inverse_ (fun vs H Q E h => ?_) (fun cdv A outer s H vs Q E hr h => ?_)
  · obtain ⟨p, b, rfl, _⟩ := h
    rfl
  · obtain ⟨p, b, rfl, hp, hb, q⟩ := h
    have hp2 := prime_pos hp
    have hpos : 0 < p := by omega
    obtain ⟨i0, i1, i2, ei⟩ := inv_ex hp (Int.emod_nonneg b (by omega)) (Int.emod_lt_of_pos b hpos) hb
    refine ⟨_, (pss_cons (ps_set (i := 2) sc_inverse_.nd rfl (.inl rfl) (pe_op op_mod (pv 1) (pv 0)))
  (pss_cons (ps_set (i := 3) sc_inverse_.nd rfl (.inl rfl) pe_int)
  (pss_cons (ps_while PassesOwn.never (pt_cmpR op_ne (pe_op op_mod (pe_op op_mul (pv 3) (pv 2)) (pv 0)) pe_int (nomark _)) (pss_one (ps_aug (i := 3) sc_inverse_.nd rfl (.inl rfl) pe_int ip_add)))
  (pss_one (ps_ret (pv 3))))))
    , ?_⟩
    refine ⟨_, rfl, _, rfl, b, p, rfl, rfl, hpos, ?_⟩
    refine ⟨fun m σ H' => ∃ k : Int, σ = [some (.int p), some (.int b), some (.int (b % p)), some (.int k)] ∧ H' = H ∧ 1 ≤ k ∧ k ≤ i0 ∧ m = (i0 - k).toNat, ⟨_, 1, rfl, rfl, by omega, i1, rfl⟩, ?_⟩
    rintro m σ H' ⟨k, rfl, rfl, k1, k2, rfl⟩
    have c1 : CMul k (b % p) := .inl ⟨by omega, by omega⟩
    refine ⟨_, rfl, _, rfl, k, b % p, rfl, rfl, c1, _, rfl, _, p, rfl, rfl, hpos, rfl, _, rfl, ?_⟩
    by_cases e : k * (b % p) % p = 1
    · rw [decide_eq_true (congrArg V.int e)]
      exact iteF ⟨_, rfl, q k k1 (by omega) e⟩
    · rw [decide_eq_false (fun z => e (V.int.inj z))]
      have hk : k ≠ i0 := fun z => e (by rw [z]; exact ei)
      exact iteT ⟨_, fun _ _ n => n, _, rfl, _, _, rfl, rfl, _, by omega, k + 1, rfl, rfl, by omega, by omega, rfl⟩
end

section
variable {P : Program} {w : World} {K : PySem.W.Frag} {mg : Str → Option Value} {base : Heap}
/-! ### number -/
def spNumber (K : PySem.W.Frag) (CW CB : Addr) : Sp := fun vs H Q E => ∃ (x : Addr) (p d a b : Int), vs = [.ref x, .int a, .int b] ∧ SqT K H x [.int p, .int d] ∧ b.natAbs < 1073741824 ∧ (isW p d = false → E (.ref CW) none H) ∧
  (isW p d = true → bad p b → E (.ref CB) none H) ∧ (isW p d = true → ¬ bad p b → ∀ r u v, IsNum p a b u v → H r = none → Q (.ref r) (upd H r (.tup [.int u, .int v])))
theorem ok_number {f CW CB a_check_world a_inverse_ a_lowest_ : Addr} {fd fd_check_world fd_inverse_ fd_lowest_ : FuncData} (F : FunA K "number" "number" s_number f fd) (T : ErrC K mg "BadNumber" CB)
    (G_check_world : FnOk P w K mg base (L2N.CX P w) 2 a_check_world fd_check_world ["world"] (spCheckWorld K CW)) (g_check_world : mg "check_world" = some (.ref a_check_world)) (k_check_world : PySem.W.keepIn K (.ref a_check_world) = true) (b_check_world : Binds K fd_check_world ["world"] [])
    (G_inverse_ : FnOk P w K mg base CX0 1 a_inverse_ fd_inverse_ ["p", "b"] spInverse) (g_inverse_ : mg "_inverse" = some (.ref a_inverse_)) (k_inverse_ : PySem.W.keepIn K (.ref a_inverse_) = true) (b_inverse_ : Binds K fd_inverse_ ["p", "b"] [])
    (G_lowest_ : FnOk P w K mg base CX0 1 a_lowest_ fd_lowest_ ["a", "b"] spLowest) (g_lowest_ : mg "_lowest" = some (.ref a_lowest_)) (k_lowest_ : PySem.W.keepIn K (.ref a_lowest_) = true) (b_lowest_ : Binds K fd_lowest_ ["a", "b"] []) :
    FnOk P w K mg base (L2N.CX P w) 3 f fd ["world", "a", "b"] (spNumber K CW CB) := by
  obtain ⟨gc_BadNumber, x_BadNumber, kc_BadNumber, bc_BadNumber, tc_BadNumber⟩ := T
  refine F.okXN sc_number (fun vs H Q E h => ?_) (fun cdv A outer s H vs Q E hr h => ?_)
  · obtain ⟨x, p, d, a, b, rfl, _⟩ := h
    rfl
  · obtain ⟨x, p, d, a, b, rfl, hS, hl, q1, q2, q3⟩ := h
    refine ⟨_, (pss_cons (ps_expr (pe_call G_check_world (hr.mono (by decide)) rfl g_check_world k_check_world b_check_world .nil (L2N.passes_call (L2N.takes_of rfl rfl rfl rfl) (fun _ _ _ _ h => h)) (pa_cons (pv 0) pa_nil)))
  (pss_cons (ps_asg (pv 0) (pg_tup rfl (pgs_cons (pg_name (i := 3) sc_number.nd rfl (.inl rfl)) (pgs_cons (pg_name (i := 4) sc_number.nd rfl (.inl rfl)) pgs_nil))))
  (pss_cons (ps_if (pw_or (pt_cmpR op_eq (pv 2) pe_int (nomark _)) (pw_or1 (pw_and (pt_cmpR op_gt (pv 3) pe_int (nomark _)) (pw_and1 (pt_cmpR op_eq (pe_op op_mod (pv 2) (pv 3)) pe_int (nomark _)))).pt)).pt (pss_one (L2N.ps_raise rfl (L2N.takes_of rfl rfl rfl rfl) (L2N.pmk_own PySem.F.excBase_ValueError x_BadNumber gc_BadNumber kc_BadNumber (raises_own bc_BadNumber tc_BadNumber) rfl))) pss_nil)
  (pss_cons (ps_if (pt_cmpR op_gt (pv 3) pe_int (nomark _)) (pss_one (ps_ret (pe_tup (pa_cons (pe_op op_mod (pe_op op_mul (pv 1) (pe_call G_inverse_ (hr.mono (by decide)) rfl g_inverse_ k_inverse_ b_inverse_ .nil pass0 (pa_cons (pv 3) (pa_cons (pv 2) pa_nil)))) (pv 3)) (pa_cons pe_int pa_nil))))) pss_nil)
  (pss_one (ps_ret (pe_call G_lowest_ (hr.mono (by decide)) rfl g_lowest_ k_lowest_ b_lowest_ .nil pass0 (pa_cons (pv 1) (pa_cons (pv 2) pa_nil)))))))))
    , ?_⟩
    refine ⟨_, rfl, x, p, d, rfl, hS, fun ew => ?_, q1⟩
    have r2 := q2 ew
    have r3 := q3 ew
    refine ⟨_, rfl, x, _, rfl, hS, rfl, _, _, rfl, _, _, rfl, rfl, ?_⟩
    by_cases hb0 : b = 0
    · refine ⟨_, rfl, rfl, _, rfl, ?_⟩
      rw [decide_eq_true (congrArg V.int hb0)]
      exact iteT (iteT (r2 (.inl hb0)))
    · refine ⟨_, rfl, rfl, _, rfl, ?_⟩
      rw [decide_eq_false (fun z => hb0 (V.int.inj z))]
      refine iteF ?_
      refine ⟨_, rfl, _, _, rfl, rfl, _, rfl, ?_⟩
      by_cases hp : 0 < p
      · have hpp := (isW_prime ew (by omega)).1
        have hp2 := prime_pos hpp
        rw [decide_eq_true hp]
        refine iteT ⟨_, rfl, _, rfl, b, p, rfl, rfl, hp, rfl, _, rfl, ?_⟩
        by_cases hm : b % p = 0
        · rw [decide_eq_true (congrArg V.int hm)]
          exact iteT (r2 (.inr ⟨hp, hm⟩))
        · rw [decide_eq_false (fun z => hm (V.int.inj z))]
          refine iteF ?_
          refine ⟨_, rfl, _, _, rfl, rfl, _, rfl, ?_⟩
          rw [decide_eq_true hp]
          refine iteT ?_
          refine ⟨_, rfl, _, rfl, _, rfl, p, b, rfl, hpp, hm, fun k k1 k2 ek => ?_⟩
          refine ⟨a, k, rfl, rfl, .inr ⟨by omega, by omega⟩, _, rfl, _, p, rfl, rfl, hp, (by show 2 ≤ sizeLine; decide), fun r nr => ?_⟩
          refine r3 (fun z => ?_) r _ 1 (.inl ⟨hp, rfl, Int.emod_nonneg _ (by omega), Int.emod_lt_of_pos _ hp, inv_solves hp ek (by omega)⟩) nr
          rcases z with z | z
          · exact hb0 z
          · exact hm z.2
      · rw [decide_eq_false hp]
        refine iteF (iteF ?_)
        refine ⟨_, rfl, _, _, rfl, rfl, _, rfl, ?_⟩
        rw [decide_eq_false hp]
        refine iteF ?_
        refine ⟨_, rfl, _, rfl, a, b, rfl, hb0, hl, fun r nr => ?_⟩
        refine r3 (fun z => ?_) r _ _ (.inr ⟨hp, rfl⟩) nr
        rcases z with z | z
        · exact hb0 z
        · exact hp z.1
end

section
variable {P : Program} {w : World} {K : PySem.W.Frag} {mg : Str → Option Value} {base : Heap}
/-! ### _check_two -/
def spCheckTwo (K : PySem.W.Frag) (CW CN : Addr) : Sp := fun vs H Q E => ∃ (x y z : Addr) (p d a b a' b' : Int), vs = [.ref x, .ref y, .ref z] ∧ SqT K H x [.int p, .int d] ∧ SqT K H y [.int a, .int b] ∧ SqT K H z [.int a', .int b'] ∧
  (isW p d = false → E (.ref CW) none H) ∧ (isW p d = true → (isN p a b = false ∨ isN p a' b' = false) → E (.ref CN) none H) ∧ (isW p d = true → isN p a b = true → isN p a' b' = true → Q .non H)
theorem ok_check_two {f CW CN a_check_number : Addr} {fd fd_check_number : FuncData} (F : Fun K "_check_two" "_check_two" s_check_two_ f fd)
    (G_check_number : FnOk P w K mg base (L2N.CX P w) 4 a_check_number fd_check_number ["world", "x"] (spCheckNumber K CW CN)) (g_check_number : mg "check_number" = some (.ref a_check_number)) (k_check_number : PySem.W.keepIn K (.ref a_check_number) = true) (b_check_number : Binds K fd_check_number ["world", "x"] []) :
    FnOk P w K mg base (L2N.CX P w) 5 f fd ["world", "x", "y"] (spCheckTwo K CW CN) := by
  refine F.okXN sc_check_two_ (fun vs H Q E h => ?_) (fun cdv A outer s H vs Q E hr h => ?_)
  · obtain ⟨x, y, z, p, d, a, b, a', b', rfl, _⟩ := h
    rfl
  · obtain ⟨x, y, z, p, d, a, b, a', b', rfl, hx, hy, hz, q1, q2, q3⟩ := h
    refine ⟨_, (pss_cons (ps_expr (pe_call G_check_number (hr.mono (by decide)) rfl g_check_number k_check_number b_check_number .nil (L2N.passes_call (L2N.takes_of rfl rfl rfl rfl) (fun _ _ _ _ h => h)) (pa_cons (pv 0) (pa_cons (pv 1) pa_nil))))
  (pss_one (ps_expr (pe_call G_check_number (hr.mono (by decide)) rfl g_check_number k_check_number b_check_number .nil (L2N.passes_call (L2N.takes_of rfl rfl rfl rfl) (fun _ _ _ _ h => h)) (pa_cons (pv 0) (pa_cons (pv 2) pa_nil)))))), ?_⟩
    refine ⟨_, rfl, _, rfl, x, y, p, d, a, b, rfl, hx, hy, fun ew en => ?_, fun ew en => q2 ew (.inl en), q1⟩
    exact ⟨_, rfl, _, rfl, x, z, p, d, a', b', rfl, hx, hz, fun ew en' => q3 ew en en', fun ew en' => q2 ew (.inr en'), q1⟩
end

def spOp (K : PySem.W.Frag) (CW CN CB : Addr) (fA fB : Int → Int → Int → Int → Int) : Sp := fun vs H Q E => ∃ (x y z : Addr) (p d a b a' b' : Int), vs = [.ref x, .ref y, .ref z] ∧ SqT K H x [.int p, .int d] ∧ SqT K H y [.int a, .int b] ∧ SqT K H z [.int a', .int b'] ∧
  (isW p d = false → E (.ref CW) none H) ∧ (isW p d = true → (isN p a b = false ∨ isN p a' b' = false) → E (.ref CN) none H) ∧
  (isW p d = true → isN p a b = true → isN p a' b' = true → (a.natAbs < 2 ^ 62 ∧ b.natAbs < 2 ^ 62 ∧ a'.natAbs < 2 ^ 62 ∧ b'.natAbs < 2 ^ 62 ∧ (fB a b a' b').natAbs < 1073741824) ∧
    (bad p (fB a b a' b') → E (.ref CB) none H) ∧ (¬ bad p (fB a b a' b') → ∀ r u v, IsNum p (fA a b a' b') (fB a b a' b') u v → H r = none → Q (.ref r) (upd H r (.tup [.int u, .int v]))))
def fPlusA : Int → Int → Int → Int → Int := fun a b a' b' => a * b' + a' * b
def fMinusA : Int → Int → Int → Int → Int := fun a b a' b' => a * b' - a' * b
def fTimesA : Int → Int → Int → Int → Int := fun a _ a' _ => a * a'
def fTimesB : Int → Int → Int → Int → Int := fun _ b _ b' => b * b'
def fOverA : Int → Int → Int → Int → Int := fun a _ _ b' => a * b'
def fOverB : Int → Int → Int → Int → Int := fun _ b a' _ => b * a'
theorem cm62 {a b : Int} (h : a.natAbs < 2 ^ 62) : CMul a b := .inl ⟨by omega, by omega⟩

section
variable {P : Program} {w : World} {K : PySem.W.Frag} {mg : Str → Option Value} {base : Heap}
/-! ### times -/
theorem ok_times {f CW CN CB a_check_two_ a_number : Addr} {fd fd_check_two_ fd_number : FuncData} (F : Fun K "times" "times" s_times f fd)
    (G_check_two_ : FnOk P w K mg base (L2N.CX P w) 5 a_check_two_ fd_check_two_ ["world", "x", "y"] (spCheckTwo K CW CN)) (g_check_two_ : mg "_check_two" = some (.ref a_check_two_)) (k_check_two_ : PySem.W.keepIn K (.ref a_check_two_) = true) (b_check_two_ : Binds K fd_check_two_ ["world", "x", "y"] [])
    (G_number : FnOk P w K mg base (L2N.CX P w) 3 a_number fd_number ["world", "a", "b"] (spNumber K CW CB)) (g_number : mg "number" = some (.ref a_number)) (k_number : PySem.W.keepIn K (.ref a_number) = true) (b_number : Binds K fd_number ["world", "a", "b"] []) :
    FnOk P w K mg base (L2N.CX P w) 6 f fd ["world", "x", "y"] (spOp K CW CN CB fTimesA fTimesB) := by
  refine F.okXN sc_times (fun vs H Q E h => ?_) (fun cdv A outer s H vs Q E hr h => ?_)
  · obtain ⟨x, y, z, p, d, a, b, a', b', rfl, _⟩ := h
    rfl
  · obtain ⟨x, y, z, p, d, a, b, a', b', rfl, hx, hy, hz, q1, q2, q3⟩ := h
    have ya : atI [V.int a, V.int b] 0 = some (.int a) := atI_nat (j := 0) rfl
    have yb : atI [V.int a, V.int b] 1 = some (.int b) := atI_nat (j := 1) rfl
    have za : atI [V.int a', V.int b'] 0 = some (.int a') := atI_nat (j := 0) rfl
    have zb : atI [V.int a', V.int b'] 1 = some (.int b') := atI_nat (j := 1) rfl
    refine ⟨_, (pss_cons (ps_expr (pe_call G_check_two_ (hr.mono (by decide)) rfl g_check_two_ k_check_two_ b_check_two_ .nil (L2N.passes_call (L2N.takes_of rfl rfl rfl rfl) (fun _ _ _ _ h => h)) (pa_cons (pv 0) (pa_cons (pv 1) (pa_cons (pv 2) pa_nil)))))
  (pss_one (ps_ret (pe_call G_number (hr.mono (by decide)) rfl g_number k_number b_number .nil (L2N.passes_call (L2N.takes_of rfl rfl rfl rfl) (fun _ _ _ _ h => h)) (pa_cons (pv 0) (pa_cons (pe_op op_mul (pe_ix ix_tup (pv 1) pe_int (fun _ _ => rfl)) (pe_ix ix_tup (pv 2) pe_int (fun _ _ => rfl))) (pa_cons (pe_op op_mul (pe_ix ix_tup (pv 1) pe_int (fun _ _ => rfl)) (pe_ix ix_tup (pv 2) pe_int (fun _ _ => rfl))) pa_nil))))))), ?_⟩
    refine ⟨_, rfl, _, rfl, _, rfl, x, y, z, p, d, a, b, a', b', rfl, hx, hy, hz, q1, q2, fun ew en en' => ?_⟩
    obtain ⟨⟨b1, b2, b3, b4, b5⟩, qb, qn⟩ := q3 ew en en'
    exact ⟨_, rfl, _, rfl, y, _, 0, .int a, rfl, rfl, hy, ya, _, rfl, z, _, 0, .int a', rfl, rfl, hz, za, a, a', rfl, rfl, cm62 b1, _, rfl, y, _, 1, .int b, rfl, rfl, hy, yb, _, rfl, z, _, 1, .int b', rfl, rfl, hz, zb, b, b', rfl, rfl, cm62 b2, x, p, d, _, _, rfl, hx, b5, q1, fun _ => qb, fun _ => qn⟩
end

theorem low_self {u v : Int} (hv : 0 < v) : (low u v = (u, v)) ↔ gI u v = 1 := by
  have hg := gI_pos (a := u) (b := v) (by omega)
  unfold low
  rw [if_neg (by omega)]
  constructor
  · intro h
    have h2 := congrArg Prod.snd h
    have h3 : v / gI u v = v := h2
    by_cases c : gI u v = 1
    · exact c
    · have : v / gI u v < v := Int.ediv_lt_of_lt_mul (by omega) (by
        have : v * 2 ≤ v * gI u v := Int.mul_le_mul_of_nonneg_left (by omega) (by omega)
        omega)
      omega
  · intro h
    rw [h, Int.ediv_one, Int.ediv_one]

theorem low_isN {a b : Int} (hb : b ≠ 0) : isN 0 (low a b).1 (low a b).2 = true := by
  obtain ⟨h1, h2⟩ := low_q (u := (low a b).1) (v := (low a b).2) hb rfl
  have e : low (low a b).1 (low a b).2 = low a b := by
    rw [low_rat (show (low a b).2 ≠ 0 by omega), h1, ← low_rat hb]
  unfold isN
  rw [if_pos rfl, if_pos (by omega)]
  exact decide_eq_true ((low_self h2).mp e)

section
variable {P : Program} {w : World} {K : PySem.W.Frag} {mg : Str → Option Value} {base : Heap}
/-! ### power -/
def spPower (K : PySem.W.Frag) (CW CN CB : Addr) : Sp := fun vs H Q E => ∃ (x y : Addr) (p d a b n : Int), vs = [.ref x, .ref y, .int n] ∧ SqT K H x [.int p, .int d] ∧ SqT K H y [.int a, .int b] ∧
  (isW p d = false → E (.ref CW) none H) ∧ (isW p d = true → isN p a b = false → E (.ref CN) none H) ∧ (isW p d = true → isN p a b = true → ¬ (0 ≤ n ∧ n ≤ 200) → E (.ref CB) none H) ∧
  (isW p d = true → isN p a b = true → 0 ≤ n → n ≤ 200 → n ≤ 12 ∧ a.natAbs ≤ 31 ∧ b.natAbs ≤ 4 ∧ (∀ r u v H', IsNum p (a ^ n.toNat) (b ^ n.toNat) u v → Same H H' → SqT K H' r [.int u, .int v] → Q (.ref r) H'))
theorem isN_pos {p a b : Int} (h : isN p a b = true) (hp : p = 0 ∨ p ∈ primes) : (p = 0 → 0 < b) ∧ (p ≠ 0 → b = 1 ∧ 0 ≤ a ∧ a < p) := by
  unfold isN at h
  constructor
  · intro c
    rw [if_pos c] at h
    by_cases e : 1 ≤ b
    · omega
    · rw [if_neg e] at h
      cases h
  · intro c
    rw [if_neg c] at h
    by_cases e : b = 1
    · rw [if_pos e] at h
      by_cases e2 : 0 ≤ a
      · rw [if_pos e2] at h
        exact ⟨e, e2, of_decide_eq_true h⟩
      · rw [if_neg e2] at h
        cases h
    · rw [if_neg e] at h
      cases h
theorem num_isN {p A B u v : Int} (hp : p = 0 ∨ p ∈ primes) (hB : p = 0 → B ≠ 0) (h : IsNum p A B u v) : isN p u v = true := by
  by_cases c : p = 0
  · obtain ⟨_, e⟩ := h.resolve_left (fun z => by omega)
    have := low_isN (a := A) (hB c)
    rw [← e] at this
    rw [c]
    exact this
  · have hp2 := prime_pos (hp.resolve_left c)
    obtain ⟨h0, e1, l1, u1, m1⟩ := h.resolve_right (fun z => by omega)
    unfold isN
    rw [if_neg c, if_pos e1, if_pos l1]
    exact decide_eq_true u1
theorem pow_small {a : Int} {k : Nat} (ha : a.natAbs ≤ 31) (hk : k ≤ 12) : (a ^ k).natAbs ≤ 31 ^ 12 := by
  rw [Int.natAbs_pow]
  exact Nat.le_trans (Nat.pow_le_pow_left ha k) (Nat.pow_le_pow_right (by decide) hk)
theorem pow_small4 {b : Int} {k : Nat} (hb : b.natAbs ≤ 4) (hk : k ≤ 12) : (b ^ k).natAbs ≤ 4 ^ 12 := by
  rw [Int.natAbs_pow]
  exact Nat.le_trans (Nat.pow_le_pow_left hb k) (Nat.pow_le_pow_right (by decide) hk)
theorem ok_power {f CW CN CB aO a_check_number a_times : Addr} {fd fd_check_number fd_times : FuncData} {tm : Tok} (F : Fun K "power" "power" s_power f fd) (T : ErrC K mg "BadNumber" CB) (z_range : mg "range" = none) (m_MOST_POWER : mg "MOST_POWER" = some (.int 200 tm)) (m_ONE : mg "ONE" = some (.ref aO)) (tO : ∀ H, SqT K H aO [.int 1, .int 1])
    (G_check_number : FnOk P w K mg base (L2N.CX P w) 4 a_check_number fd_check_number ["world", "x"] (spCheckNumber K CW CN)) (g_check_number : mg "check_number" = some (.ref a_check_number)) (k_check_number : PySem.W.keepIn K (.ref a_check_number) = true) (b_check_number : Binds K fd_check_number ["world", "x"] [])
    (G_times : FnOk P w K mg base (L2N.CX P w) 6 a_times fd_times ["world", "x", "y"] (spOp K CW CN CB fTimesA fTimesB)) (g_times : mg "times" = some (.ref a_times)) (k_times : PySem.W.keepIn K (.ref a_times) = true) (b_times : Binds K fd_times ["world", "x", "y"] []) :
    FnOk P w K mg base (L2N.CX P w) 7 f fd ["world", "x", "count"] (spPower K CW CN CB) := by
  obtain ⟨gc_BadNumber, x_BadNumber, kc_BadNumber, bc_BadNumber, tc_BadNumber⟩ := T
  have r_MOST_POWER : RelV (.int 200) (.int 200 tm) := ⟨_, rfl⟩
  have r_ONE : RelV (.ref aO) (.ref aO) := rfl
  refine F.okXN sc_power (fun vs H Q E h => ?_) (fun cdv A outer s H vs Q E hr h => ?_)
  · obtain ⟨x, y, p, d, a, b, n, rfl, _⟩ := h
    rfl
  · obtain ⟨x, y, p, d, a, b, n, rfl, hx, hy, q1, q2, q3, q4⟩ := h
    refine ⟨_, (pss_cons (ps_expr (pe_call G_check_number (hr.mono (by decide)) rfl g_check_number k_check_number b_check_number .nil (L2N.passes_call (L2N.takes_of rfl rfl rfl rfl) (fun _ _ _ _ h => h)) (pa_cons (pv 0) (pa_cons (pv 1) pa_nil))))
  (pss_cons (ps_if (pt_not (pt_chain op_le op_le pe_int (pv 2) (pe_glob rfl m_MOST_POWER r_MOST_POWER))) (pss_one (L2N.ps_raise rfl (L2N.takes_of rfl rfl rfl rfl) (L2N.pmk_own PySem.F.excBase_ValueError x_BadNumber gc_BadNumber kc_BadNumber (raises_own bc_BadNumber tc_BadNumber) rfl))) pss_nil)
  (pss_cons (ps_set (i := 3) sc_power.nd rfl (.inl rfl) (pe_glob rfl m_ONE r_ONE))
  (pss_cons (ps_for (passes_of rfl) rfl (pi_range1 rfl z_range (pa_cons (pv 2) pa_nil)) (pg_name (i := 4) sc_power.nd rfl (.inl rfl)) (pss_one (ps_set (i := 3) sc_power.nd rfl (.inl rfl) (pe_call G_times (hr.mono (by decide)) rfl g_times k_times b_times .nil (L2N.passes_call (L2N.takes_of rfl rfl rfl rfl) (fun _ _ _ _ h => h)) (pa_cons (pv 0) (pa_cons (pv 3) (pa_cons (pv 1) pa_nil)))))))
  (pss_one (ps_ret (pv 3))))))), ?_⟩
    refine ⟨_, rfl, _, rfl, x, y, p, d, a, b, rfl, hx, hy, fun ew en => ?_, q2, q1⟩
    refine ⟨_, rfl, 0, n, rfl, rfl, _, rfl, ite2 (fun e => ?_) (fun e => ?_)⟩
    · have n0 : 0 ≤ n := of_decide_eq_true e
      refine ⟨n, 200, rfl, rfl, _, rfl, ?_⟩
      by_cases n1 : n ≤ 200
      · rw [decide_eq_true n1]
        refine iteF ?_
        obtain ⟨n12, sa, sb, q⟩ := q4 ew en n0 n1
        obtain ⟨hp, _⟩ := isW_cases ew
        obtain ⟨pz, pn⟩ := isN_pos en hp
        refine ⟨_, rfl, n, rfl, by omega, by omega, for_range (lo := 0) (n := n.toNat) (fun i σ H' => ∃ (r : Addr) (u v : Int) (v4 : Option V), σ = [some (.ref x), some (.ref y), some (.int n), some (.ref r), v4] ∧ Same H H' ∧ SqT K H' r [.int u, .int v] ∧ IsNum p (a ^ i) (b ^ i) u v)
          ⟨aO, 1, 1, none, rfl, Same.refl _, tO _, ?_⟩ ?_ ?_⟩
        · by_cases c : p = 0
          · exact .inr ⟨by omega, by rw [Int.pow_zero, Int.pow_zero]; rfl⟩
          · have := prime_pos (hp.resolve_left c)
            exact .inl ⟨by omega, rfl, by decide, by omega, by rw [Int.pow_zero, Int.pow_zero, show (1 : Int) * 1 - 1 = 0 by decide]; exact Int.zero_emod p⟩
        · rintro i σ H' hi ⟨r, u, v, v4, rfl, sm, hr', hn⟩
          have hB : p = 0 → b ^ i ≠ 0 := fun c => Int.pow_ne_zero (by have := pz c; omega)
          have s1 := pow_small (k := i) sa (by omega)
          have s2 := pow_small4 (k := i) sb (by omega)
          obtain ⟨su, sv⟩ : u.natAbs ≤ 31 ^ 12 ∧ v.natAbs ≤ 4 ^ 12 := by
            rcases hn with ⟨h0, e1, l1, l2, _⟩ | ⟨_, e1⟩
            · have := prime_pos (hp.resolve_left (by omega))
              omega
            · have := low_small e1
              omega
          have hbn : ¬ bad p (fTimesB u v a b) := fun z => by
            rcases z with z | ⟨z1, z2⟩
            · by_cases c : p = 0
              · have := pz c
                have e := (hn.resolve_left (fun z => by omega)).2
                have := (low_cross (hB c) e).2
                exact absurd z (Int.mul_ne_zero (by omega) (by omega))
              · have := (hn.resolve_right (fun z => by have := prime_pos (hp.resolve_left c); omega)).2.1
                rw [show fTimesB u v a b = v * b from rfl, this, (pn c).1] at z
                cases z
            · have c : p ≠ 0 := by omega
              have := (hn.resolve_right (fun z => by omega)).2.1
              rw [show fTimesB u v a b = v * b from rfl, this, (pn c).1, Int.emod_eq_of_lt (by decide) (by have := prime_pos (hp.resolve_left c); omega)] at z2
              cases z2
          have hvb : (fTimesB u v a b).natAbs < 1073741824 := by
            show (v * b).natAbs < _
            rw [Int.natAbs_mul]
            have := Nat.mul_le_mul sv sb
            omega
          refine ⟨_, rfl, _, rfl, _, rfl, x, r, y, p, d, u, v, a, b, rfl, sqT_same sm hx, hr', sqT_same sm hy, fun z => ?_, fun _ z => ?_, fun _ _ _ => ⟨⟨by omega, by omega, by omega, by omega, hvb⟩, fun z => absurd z hbn, fun _ r' u' v' hn' nr' => ?_⟩⟩
          · rw [ew] at z
            exact nomatch z
          · rcases z with z | z
            · rw [num_isN hp hB hn] at z
              exact nomatch z
            · rw [en] at z
              exact nomatch z
          · refine ⟨r', u', v', some (.int (0 + (i : Int))), rfl, Same.trans sm (same_upd nr'), .inl (.inl upd_same), ?_⟩
            rw [Int.pow_succ, Int.pow_succ]
            exact num_step hp hB (fun c => by have := pz c; omega) (fun c => (pn c).1) (fun c => by rw [(pn c).1, Int.one_pow]) hn hn'
        · rintro σ H' ⟨r, u, v, v4, rfl, sm, hr', hn⟩
          exact ⟨_, rfl, q r u v H' hn sm hr'⟩
      · rw [decide_eq_false n1]
        exact iteT (q3 ew en (fun z => n1 z.2))
    · exact ⟨_, rfl, iteT (q3 ew en (fun z => e (decide_eq_true z.1)))⟩
end

section
variable {P : Program} {w : World} {K : PySem.W.Frag} {mg : Str → Option Value} {base : Heap}
/-! ### loop_worth -/
def spLoopWorth (K : PySem.W.Frag) (CW : Addr) : Sp := fun vs H Q E => ∃ (x : Addr) (p d : Int), vs = [.ref x] ∧ SqT K H x [.int p, .int d] ∧ (isW p d = false → E (.ref CW) none H) ∧ (isW p d = true → ∀ r, H r = none → Q (.ref r) (upd H r (.tup [.int d, .int 1])))
theorem ok_loop_worth {f CW a_check_world : Addr} {fd fd_check_world : FuncData} (F : Fun K "loop_worth" "loop_worth" s_loop_worth f fd)
    (G_check_world : FnOk P w K mg base (L2N.CX P w) 2 a_check_world fd_check_world ["world"] (spCheckWorld K CW)) (g_check_world : mg "check_world" = some (.ref a_check_world)) (k_check_world : PySem.W.keepIn K (.ref a_check_world) = true) (b_check_world : Binds K fd_check_world ["world"] []) :
    FnOk P w K mg base (L2N.CX P w) 3 f fd ["world"] (spLoopWorth K CW) := by
  refine F.okXN sc_loop_worth (fun vs H Q E h => ?_) (fun cdv A outer s H vs Q E hr h => ?_)
  · obtain ⟨x, p, d, rfl, _⟩ := h
    rfl
  · obtain ⟨x, p, d, rfl, hS, q1, q2⟩ := h
    refine ⟨_, (pss_cons (ps_expr (pe_call G_check_world (hr.mono (by decide)) rfl g_check_world k_check_world b_check_world .nil (L2N.passes_call (L2N.takes_of rfl rfl rfl rfl) (fun _ _ _ _ h => h)) (pa_cons (pv 0) pa_nil)))
  (pss_one (ps_ret (pe_tup (pa_cons (pe_ix ix_tup (pv 0) pe_int (fun _ _ => rfl)) (pa_cons pe_int pa_nil))))))
    , ?_⟩
    refine ⟨_, rfl, x, p, d, rfl, hS, fun ew => ?_, q1⟩
    exact ⟨_, rfl, x, _, 1, .int d, rfl, rfl, hS, atI_nat (j := 1) rfl, (by show 2 ≤ sizeLine; decide), fun r nr => q2 ew r nr⟩
end

def fams : List Str := ["threads", "loose", "pairs", "lonepairs", "even", "parts"]

theorem sqL_same {K : PySem.W.Frag} {H H' : Hp} {a : Addr} {xs : List V} (e : Same H H') (h : SqL K H a xs) : SqL K H' a xs := by
  rcases h with (h | ⟨o, h⟩) | h
  · exact .inl (.inl (e _ _ h))
  · exact .inl (.inr ⟨o, e _ _ h⟩)
  · exact .inr h
theorem none_back {H H' : Hp} {a : Addr} (s : Same H H') (h : H' a = none) : H a = none := by
  cases e : H a with
  | none => rfl
  | some o =>
    rw [s _ _ e] at h
    exact nomatch h

/-- a tuple of these integers -/
def TP (H : Hp) (v : V) (z : List Int) : Prop := ∃ t, v = .ref t ∧ H t = some (.tup (z.map V.int))
theorem TP.same {H H' : Hp} {v : V} {z : List Int} (s : Same H H') (h : TP H v z) : TP H' v z := by
  obtain ⟨t, rfl, h⟩ := h
  exact ⟨t, rfl, s _ _ h⟩
def dT (z : List Int) : PyData := .tuple (z.map PyData.int)
theorem ints_dp {K : PySem.W.Frag} {H : Hp} : ∀ z : List Int, DpAll K H (z.map V.int) (z.map PyData.int)
  | [] => .nil
  | a :: r => .cons (.int a) (ints_dp r)
theorem TP.dp {K : PySem.W.Frag} {H : Hp} {v : V} {z : List Int} (h : TP H v z) : Dp K H v (dT z) := by
  obtain ⟨t, rfl, h⟩ := h
  exact .tup (.inl (.inl h)) (ints_dp z)
theorem tps_dp {K : PySem.W.Frag} {H : Hp} : ∀ {vs : List V} {zs : List (List Int)}, Paired (TP H) vs zs → DpAll K H vs (zs.map dT)
  | _, _, .nil => .nil
  | _, _, .cons a b => .cons a.dp (tps_dp b)
theorem paired_add {α β : Type} {F : α → β → Prop} {a : α} {b : β} (h : F a b) : ∀ {l : List α} {m : List β}, Paired F l m → Paired F (l ++ [a]) (m ++ [b])
  | _, _, .nil => .cons h .nil
  | _, _, .cons x y => .cons x (paired_add h y)
theorem dT_small {z : List Int} (h : ∀ k, (co z k).natAbs < 2 ^ 200) : SmL 1 (1923 * z.length + 3) (dT z) := by
  have e := smL_tuple (ds := z.map PyData.int) (n := 0) (k := 1921) fun D hD => by
    obtain ⟨a, ha, rfl⟩ := List.mem_map.mp hD
    obtain ⟨i, hi, rfl⟩ := List.mem_iff_getElem.mp ha
    have e1 := co_get hi
    rw [List.getElem?_eq_getElem hi] at e1
    rw [Option.some.inj e1]
    exact smL_int (h i)
  rw [List.length_map] at e
  exact e
theorem SmL.more {n k k' : Nat} {D : PyData} (h : SmL n k D) (hk : k ≤ k') : SmL n k' D := by
  obtain ⟨h1, h2, h3, h4⟩ := h
  exact ⟨h1, h2, h3, Nat.le_trans h4 hk⟩
theorem repT {α : Type} (x : α) : ∀ n : Nat, (List.replicate n [x]).flatten = List.replicate n x
  | 0 => rfl
  | n + 1 => by rw [List.replicate_succ, List.flatten_cons, repT x n, List.replicate_succ]; rfl
def rCatB (K : PySem.W.Frag) : R2 := fun x y H Q => ∃ a b xs ys, x = .ref a ∧ y = .ref b ∧ SqT K H a xs ∧ SqT K H b ys ∧ xs.length + ys.length ≤ sizeLine ∧ ∀ p H', Same H H' → SqT K H' p (xs ++ ys) → Q (.ref p) H'
theorem op_catB {X : Cx} : OpR X (binaryOp .Add) (rCatB X.K) := by
  intro pins s σ H x y v u Q I rx ry h
  obtain ⟨a, b, xs, ys, rfl, rfl, ha, hb, hz, q⟩ := h
  refine op_catA pins s σ H _ _ v u Q I rx ry ⟨a, b, xs, ys, rfl, rfl, ha, hb, hz, fun e => ?_, fun _ e => ?_, fun _ _ p np => ?_⟩
  · exact q b H (Same.refl _) (by rw [e, List.nil_append]; exact hb)
  · exact q a H (Same.refl _) (by rw [e, List.append_nil]; exact ha)
  · exact q p _ (same_upd np) (.inl (.inl upd_same))
theorem sqT_butL {K : PySem.W.Frag} {H H' : Hp} {r a : Addr} {xs ys : List V} (hr : H r = some (.lst ys)) (e : SameBut r H H') (h : SqT K H a xs) : SqT K H' a xs := by
  rcases h with (h | ⟨o, h⟩) | h
  · exact .inl (.inl (e _ _ (ne_of h hr (fun z => nomatch z)) h))
  · exact .inl (.inr ⟨o, e _ _ (ne_of h hr (fun z => nomatch z)) h⟩)
  · exact .inr h
theorem eqvAll_ints : ∀ x y : List Int, PyData.eqvAll (x.map PyData.int) (y.map PyData.int) = decide (x = y)
  | [], [] => by simp [PyData.eqvAll]
  | [], _ :: _ => by simp [PyData.eqvAll]
  | _ :: _, [] => by simp [PyData.eqvAll]
  | a :: x, b :: y => by
    rw [List.map_cons, List.map_cons]
    simp only [PyData.eqvAll, PyData.eqv, eqvAll_ints x y]
    by_cases h1 : a = b
    · by_cases h2 : x = y
      · simp [h1, h2]
      · simp [h2]
    · simp [h1]
theorem eqv_dT (x y : List Int) : PyData.eqv (dT x) (dT y) = decide (x = y) := by
  unfold dT
  simp only [PyData.eqv, eqvAll_ints]
theorem lay_ints : ∀ x : List Int, PyData.canLayAll0 (x.map PyData.int) = true ∧ PyData.depthAll (x.map PyData.int) = 0
  | [] => ⟨by simp [PyData.canLayAll0], by simp [PyData.depthAll]⟩
  | a :: x => by
    obtain ⟨h1, h2⟩ := lay_ints x
    exact ⟨by simp [PyData.canLayAll0, PyData.canLay0, h1], by simp [PyData.depthAll, PyData.depth, h2]⟩
theorem dT_shaped (x : List Int) : SeqAt.shaped (dT x) = true := by
  obtain ⟨h1, h2⟩ := lay_ints x
  show (PyData.canLay0 (dT x) && decide (PyData.depth (dT x) ≤ 64)) = true
  unfold dT
  rw [show PyData.canLay0 (.tuple (x.map PyData.int)) = true by simp [PyData.canLay0, h1], show PyData.depth (.tuple (x.map PyData.int)) = 1 by simp [PyData.depth, h2]]
  rfl
theorem eqD_TP {K : PySem.W.Frag} {H : Hp} {u v : V} {x y : List Int} {Q : VK} (hx : TP H u x) (hy : TP H v y) (q : Q (.bl (decide (x = y))) H) : rEqD K u v H Q :=
  ⟨_, _, hx.dp, hy.dp, dT_shaped x, dT_shaped y, by rw [eqv_dT]; exact q⟩
theorem neD_TP {K : PySem.W.Frag} {H : Hp} {u v : V} {x y : List Int} {Q : VK} (hx : TP H u x) (hy : TP H v y) (q : Q (.bl (!decide (x = y))) H) : rNeD K u v H Q :=
  ⟨_, _, hx.dp, hy.dp, dT_shaped x, dT_shaped y, by rw [eqv_dT]; exact q⟩
def rRepB (K : PySem.W.Frag) : R2 := fun x y H Q => ∃ l k xs, x = .ref l ∧ y = .int k ∧ SqT K H l xs ∧ xs ≠ [] ∧ 0 ≤ k ∧ k ≤ 1000 ∧ xs.length ≤ 1000 ∧ ∀ p H', Same H H' → SqT K H' p (List.replicate k.toNat xs).flatten → Q (.ref p) H'
theorem op_repB {X : Cx} : OpR X (binaryOp .Mult) (rRepB X.K) := by
  intro pins s σ H x y v u Q I rx ry h
  obtain ⟨l, k, xs, rfl, rfl, hT, hne, h1, h2, hz, q⟩ := h
  refine op_repA pins s σ H _ _ v u Q I rx ry ⟨l, k, xs, rfl, rfl, hT, hne, h1, h2, hz, fun e => ?_, fun _ p np => ?_⟩
  · refine q l H (Same.refl _) ?_
    rw [e, show (1 : Int).toNat = 1 from rfl]
    simpa using hT
  · exact q p _ (same_upd np) (.inl (.inl upd_same))
theorem ix_tupK {X : Cx} {K : PySem.W.Frag} (hK : X.K = K) : IxR X (rIxT K) := by
  subst hK
  exact ix_tup
theorem ix_listK {X : Cx} {K : PySem.W.Frag} (hK : X.K = K) : IxR X (rIxL K) := by
  subst hK
  exact ix_list
theorem ite_same {x : V} {A B : Prop} (h : B) : if (!decide (x = x)) = true then A else B := by
  rw [decide_eq_true rfl]
  exact iteF h
theorem pi_tupK {X : Cx} {K : PySem.W.Frag} {tg e : Expr} {te : TE} (hK : X.K = K) (he : PE X e te) : PI X tg e (iTup K te) := by
  subst hK
  exact pi_tup he
theorem call_list_ofK {X : Cx} {K : PySem.W.Frag} (hK : X.K = K) : CallR X (.type "list") (fun xs H Q => ∃ p ys, xs = [.ref p] ∧ (SqL K H p ys ∨ SqT K H p ys) ∧ ∀ l, H l = none → Q (.ref l) (upd H l (.lst ys))) := by
  subst hK
  exact call_list_of
theorem op_eqDK {X : Cx} {K : PySem.W.Frag} (hK : X.K = K) (hu : X.A.units + 64 < cLine) : OpR X (compareOp .Eq) (rEqD K) := by
  subst hK
  exact op_eqD hu

/-! ### marks and blocks -/
def seenL : List Int → List Int → List Int
  | acc, [] => acc
  | acc, x :: l => seenL (if x ∈ acc then acc else acc ++ [x]) l
def ixs (N : Nat) : List Int := (List.range N).map fun (i : Nat) => (i : Int)
def posOf (marks : List Int) (v : Int) : List Int := ((List.range marks.length).filter fun i => decide (co marks i = v)).map fun (i : Nat) => (i : Int)
def blocksOf (marks : List Int) : List (List Int) := (seenL [] marks).map (posOf marks)
theorem seenL_snoc : ∀ (l acc : List Int) (x : Int), seenL acc (l ++ [x]) = if x ∈ seenL acc l then seenL acc l else seenL acc l ++ [x]
  | [], acc, x => rfl
  | y :: l, acc, x => by
    show seenL _ (l ++ [x]) = _
    rw [seenL_snoc l _ x]
    rfl
theorem seenL_sub : ∀ (l acc : List Int) (x : Int), x ∈ acc → x ∈ seenL acc l
  | [], _, _, h => h
  | y :: l, acc, x, h => by
    show x ∈ seenL _ l
    refine seenL_sub l _ x ?_
    split
    · exact h
    · exact List.mem_append_left _ h
theorem seenL_mem : ∀ (l acc : List Int) (x : Int), x ∈ seenL acc l ↔ x ∈ acc ∨ x ∈ l
  | [], acc, x => by
    show x ∈ acc ↔ _
    simp
  | y :: l, acc, x => by
    show x ∈ seenL _ l ↔ _
    rw [seenL_mem l _ x]
    by_cases c : y ∈ acc
    · rw [if_pos c, List.mem_cons]
      constructor
      · rintro (h | h)
        · exact .inl h
        · exact .inr (.inr h)
      · rintro (h | rfl | h)
        · exact .inl h
        · exact .inl c
        · exact .inr h
    · rw [if_neg c, List.mem_cons, List.mem_append, List.mem_singleton, or_assoc]
theorem seenL_nodup : ∀ (l acc : List Int), acc.Nodup → (seenL acc l).Nodup
  | [], _, h => h
  | y :: l, acc, h => by
    refine seenL_nodup l _ ?_
    split
    · exact h
    · rename_i c
      refine List.nodup_append.mpr ⟨h, by simp, fun a ha b hb => ?_⟩
      rw [List.mem_singleton.mp hb]
      exact fun z => c (z ▸ ha)
theorem seenL_len : ∀ (l acc : List Int), (seenL acc l).length ≤ acc.length + l.length
  | [], _ => Nat.le_refl _
  | y :: l, acc => by
    have h := seenL_len l (if y ∈ acc then acc else acc ++ [y])
    show (seenL _ l).length ≤ _
    rw [List.length_cons]
    split at h
    · rename_i c
      rw [if_pos c]
      omega
    · rename_i c
      rw [if_neg c]
      rw [List.length_append] at h
      have : [y].length = 1 := rfl
      omega
/-- equal marks alone count -/
theorem seenL_map {g : Int → Int} : ∀ (l acc : List Int), (∀ x ∈ acc ++ l, ∀ y ∈ acc ++ l, g x = g y → x = y) → seenL (acc.map g) (l.map g) = (seenL acc l).map g
  | [], _, _ => rfl
  | y :: l, acc, h => by
    show seenL (if g y ∈ acc.map g then acc.map g else acc.map g ++ [g y]) (l.map g) = (seenL (if y ∈ acc then acc else acc ++ [y]) l).map g
    by_cases c : y ∈ acc
    · rw [if_pos c, if_pos (List.mem_map_of_mem c)]
      refine seenL_map l acc fun a ha b hb => h a ?_ b ?_
      · rcases List.mem_append.mp ha with z | z
        · exact List.mem_append_left _ z
        · exact List.mem_append_right _ (List.mem_cons_of_mem _ z)
      · rcases List.mem_append.mp hb with z | z
        · exact List.mem_append_left _ z
        · exact List.mem_append_right _ (List.mem_cons_of_mem _ z)
    · have c2 : g y ∉ acc.map g := fun z => by
        obtain ⟨a, ha, e⟩ := List.mem_map.mp z
        exact c (h a (List.mem_append_left _ ha) y (List.mem_append_right _ List.mem_cons_self) e ▸ ha)
      rw [if_neg c, if_neg c2, show acc.map g ++ [g y] = (acc ++ [y]).map g by rw [List.map_append]; rfl]
      refine seenL_map l (acc ++ [y]) fun a ha b hb => h a ?_ b ?_
      · rwa [List.append_assoc] at ha
      · rwa [List.append_assoc] at hb
theorem co_mapI (g : Int → Int) (l : List Int) {i : Nat} (h : i < l.length) : co (l.map g) i = g (co l i) := by
  have e := co_get (l := l.map g) (k := i) (by rw [List.length_map]; exact h)
  rw [List.getElem?_map, co_get h] at e
  exact (Option.some.inj e).symm
theorem posOf_map {g : Int → Int} {marks : List Int} {v : Int} (hv : v ∈ marks) (h : ∀ x ∈ marks, ∀ y ∈ marks, g x = g y → x = y) : posOf (marks.map g) (g v) = posOf marks v := by
  unfold posOf
  rw [List.length_map]
  congr 1
  refine List.filter_congr fun i hi => ?_
  have hi' := List.mem_range.mp hi
  rw [co_mapI g marks hi']
  by_cases c : co marks i = v
  · rw [decide_eq_true c, decide_eq_true (congrArg g c)]
  · rw [decide_eq_false c, decide_eq_false (fun z => c (h _ (co_mem hi') _ hv z))]
theorem blocksOf_map {g : Int → Int} {marks : List Int} (h : ∀ x ∈ marks, ∀ y ∈ marks, g x = g y → x = y) : blocksOf (marks.map g) = blocksOf marks := by
  unfold blocksOf
  rw [show ([] : List Int) = ([] : List Int).map g from rfl, seenL_map marks [] (by rw [List.nil_append]; exact h), List.map_map]
  refine List.map_congr_left fun v hv => ?_
  rcases (seenL_mem marks [] v).mp hv with z | z
  · exact nomatch z
  · exact posOf_map z h
/-! a partition -/
theorem perm_split (p : Nat → Bool) : ∀ l : List Nat, (l.filter p ++ l.filter fun x => !p x).Perm l := fun l => List.filter_append_perm p l
theorem part_perm {f : Nat → Int} : ∀ (vs : List Int) (l : List Nat), vs.Nodup → (∀ x ∈ l, f x ∈ vs) → ((vs.map fun v => l.filter fun i => decide (f i = v)).flatten).Perm l
  | [], l, _, h => by
    have : l = [] := List.eq_nil_iff_forall_not_mem.mpr fun x hx => nomatch h x hx
    rw [this]
    exact .refl _
  | v :: vs, l, nd, h => by
    rw [List.map_cons, List.flatten_cons]
    obtain ⟨nv, nd'⟩ := List.nodup_cons.mp nd
    have ih := part_perm (f := f) vs (l.filter fun i => !decide (f i = v)) nd' fun x hx => by
      obtain ⟨h1, h2⟩ := List.mem_filter.mp hx
      rcases List.mem_cons.mp (h x h1) with e | e
      · rw [decide_eq_true e] at h2
        exact nomatch h2
      · exact e
    have e : (vs.map fun v' => (l.filter fun i => !decide (f i = v)).filter fun i => decide (f i = v')) = vs.map fun v' => l.filter fun i => decide (f i = v') := by
      refine List.map_congr_left fun v' hv' => ?_
      rw [List.filter_filter]
      refine List.filter_congr fun i _ => ?_
      by_cases c : f i = v'
      · have c2 : f i ≠ v := fun z => nv (by rw [← z, c]; exact hv')
        rw [decide_eq_true c, decide_eq_false c2]
        rfl
      · rw [decide_eq_false c]
        rfl
    rw [e] at ih
    exact (List.Perm.append_left _ ih).trans (perm_split _ l)
theorem mem_posOf {marks : List Int} {v x : Int} : x ∈ posOf marks v ↔ ∃ i : Nat, x = (i : Int) ∧ i < marks.length ∧ co marks i = v := by
  unfold posOf
  rw [List.mem_map]
  constructor
  · rintro ⟨i, hi, rfl⟩
    obtain ⟨h1, h2⟩ := List.mem_filter.mp hi
    exact ⟨i, rfl, List.mem_range.mp h1, of_decide_eq_true h2⟩
  · rintro ⟨i, rfl, h1, h2⟩
    exact ⟨i, List.mem_filter.mpr ⟨List.mem_range.mpr h1, decide_eq_true h2⟩, rfl⟩
theorem mem_get {l : List Int} {v : Int} (h : v ∈ l) : ∃ i, i < l.length ∧ co l i = v := by
  obtain ⟨i, hi, e⟩ := List.mem_iff_getElem.mp h
  refine ⟨i, hi, ?_⟩
  have e1 := co_get hi
  rw [List.getElem?_eq_getElem hi] at e1
  rw [← Option.some.inj e1]
  exact e
theorem blocks_perm (marks : List Int) : (blocksOf marks).flatten.Perm (ixs marks.length) := by
  unfold blocksOf ixs
  have h := part_perm (f := co marks) (seenL [] marks) (List.range marks.length) (seenL_nodup marks [] List.nodup_nil) fun x hx => (seenL_mem marks [] _).mpr (.inr (co_mem (List.mem_range.mp hx)))
  have e : ((seenL [] marks).map (posOf marks)).flatten = (((seenL [] marks).map fun v => (List.range marks.length).filter fun i => decide (co marks i = v)).flatten).map fun (i : Nat) => (i : Int) := by
    rw [List.map_flatten, List.map_map]
    rfl
  rw [e]
  exact h.map _
theorem blocks_ne {marks : List Int} : ∀ b ∈ blocksOf marks, b ≠ [] := fun b hb => by
  obtain ⟨v, hv, rfl⟩ := List.mem_map.mp hb
  rcases (seenL_mem marks [] v).mp hv with z | z
  · exact nomatch z
  · obtain ⟨i, hi, e⟩ := mem_get z
    intro c
    have : (i : Int) ∈ posOf marks v := mem_posOf.mpr ⟨i, rfl, hi, e⟩
    rw [c] at this
    exact nomatch this
theorem range_lt (n : Nat) : (List.range n).Pairwise (· < ·) := List.pairwise_lt_range
theorem posOf_asc (marks : List Int) (v : Int) : (posOf marks v).Pairwise (· < ·) := by
  unfold posOf
  exact List.pairwise_map.mpr ((List.Pairwise.filter _ (range_lt _)).imp fun {a b} h => by omega)
theorem head_ix (p : Nat → Bool) {i : Nat} (h0 : ∀ j, j < i → p j = false) (h1 : p i = true) : ∀ N, (N ≤ i → (List.range N).filter p = []) ∧ (i < N → ((List.range N).filter p)[0]? = some i)
  | 0 => ⟨fun _ => rfl, fun h => absurd h (Nat.not_lt_zero _)⟩
  | N + 1 => by
    obtain ⟨a, b⟩ := head_ix p h0 h1 N
    rw [List.range_succ, List.filter_append]
    refine ⟨fun h => ?_, fun h => ?_⟩
    · rw [a (by omega), List.filter_cons, h0 N (by omega)]
      rfl
    · by_cases c : N = i
      · rw [a (by omega), List.filter_cons, c, h1]
        rfl
      · have h2 := b (by omega)
        rw [List.getElem?_append_left (List.getElem?_eq_some_iff.mp h2).1]
        exact h2
theorem posOf_head {marks : List Int} {i : Nat} (hi : i < marks.length) (h : co marks i ∉ marks.take i) : co (posOf marks (co marks i)) 0 = (i : Int) := by
  have h2 := (head_ix (fun j => decide (co marks j = co marks i)) (i := i) (fun j hj => decide_eq_false fun z => h ?_) (decide_eq_true rfl) marks.length).2 hi
  · unfold posOf co
    rw [List.getD_eq_getElem?_getD, List.getElem?_map]
    show ((((List.range marks.length).filter fun j => decide (co marks j = co marks i))[0]?).map fun (i : Nat) => (i : Int)).getD 0 = _
    rw [h2]
    rfl
  · rw [← z]
    have e : (marks.take i)[j]? = some (co marks j) := by rw [List.getElem?_take_of_lt hj, co_get (by omega)]
    exact List.mem_of_getElem? e
theorem take_snoc {l : List Int} {i : Nat} (h : i < l.length) : l.take (i + 1) = l.take i ++ [co l i] := by
  rw [List.take_succ, co_get h]
  rfl
theorem heads_run (marks : List Int) : ∀ i, i ≤ marks.length → ((seenL [] (marks.take i)).map fun v => co (posOf marks v) 0).Pairwise (· < ·) ∧ ∀ v ∈ seenL [] (marks.take i), co (posOf marks v) 0 < (i : Int)
  | 0, _ => ⟨.nil, fun v hv => nomatch hv⟩
  | i + 1, h => by
    obtain ⟨h1, h2⟩ := heads_run marks i (by omega)
    rw [take_snoc (by omega), seenL_snoc]
    by_cases c : co marks i ∈ seenL [] (marks.take i)
    · rw [if_pos c]
      exact ⟨h1, fun v hv => by have := h2 v hv; omega⟩
    · rw [if_neg c]
      have hd := posOf_head (marks := marks) (i := i) (by omega) fun z => c ((seenL_mem _ _ _).mpr (.inr z))
      refine ⟨?_, fun v hv => ?_⟩
      · rw [List.map_append]
        refine List.pairwise_append.mpr ⟨h1, List.pairwise_singleton _ _, fun a ha b hb => ?_⟩
        obtain ⟨v, hv, rfl⟩ := List.mem_map.mp ha
        obtain ⟨u, hu, rfl⟩ := List.mem_map.mp hb
        rw [List.mem_singleton.mp hu, hd]
        exact h2 v hv
      · rcases List.mem_append.mp hv with hv | hv
        · have := h2 v hv
          omega
        · rw [List.mem_singleton.mp hv, hd]
          omega
theorem blocks_heads (marks : List Int) : ((blocksOf marks).map fun b => co b 0).Pairwise (· < ·) := by
  have h := (heads_run marks marks.length (Nat.le_refl _)).1
  rw [List.take_length] at h
  unfold blocksOf
  rw [List.map_map]
  exact h
/-! labels -/
def labFrom : List (List Int) → Nat → List Int → List Int
  | [], _, ms => ms
  | b :: bs, k, ms => labFrom bs (k + 1) (b.foldl (fun ms p => ms.set p.toNat (k : Int)) ms)
def labL (bs : List (List Int)) (N : Nat) : List Int := labFrom bs 0 (List.replicate N 0)
theorem fold_len (k : Int) : ∀ (b ms : List Int), (b.foldl (fun ms p => ms.set p.toNat k) ms).length = ms.length
  | [], _ => rfl
  | p :: b, ms => by
    show (b.foldl _ (ms.set p.toNat k)).length = _
    rw [fold_len k b, List.length_set]
theorem fold_co (k : Int) {i : Nat} : ∀ (b ms : List Int), (∀ p ∈ b, 0 ≤ p ∧ p < ms.length) → co (b.foldl (fun ms p => ms.set p.toNat k) ms) i = if (i : Int) ∈ b then k else co ms i
  | [], _, _ => rfl
  | p :: b, ms, h => by
    show co (b.foldl _ (ms.set p.toNat k)) i = _
    obtain ⟨h1, h2⟩ := h p List.mem_cons_self
    rw [fold_co k b (ms.set p.toNat k) fun q hq => by rw [List.length_set]; exact h q (List.mem_cons_of_mem _ hq), co_set i (by omega)]
    by_cases c : (i : Int) ∈ b
    · rw [if_pos c, if_pos (List.mem_cons_of_mem _ c)]
    · rw [if_neg c]
      by_cases c2 : i = p.toNat
      · rw [if_pos c2, if_pos (List.mem_cons.mpr (.inl (by omega)))]
      · rw [if_neg c2, if_neg]
        intro z
        rcases List.mem_cons.mp z with z | z
        · omega
        · exact c z
theorem labFrom_len : ∀ (bs : List (List Int)) (k : Nat) (ms : List Int), (labFrom bs k ms).length = ms.length
  | [], _, _ => rfl
  | b :: bs, k, ms => by
    show (labFrom bs (k + 1) _).length = _
    rw [labFrom_len bs, fold_len]
theorem labL_len (bs : List (List Int)) (N : Nat) : (labL bs N).length = N := by
  unfold labL
  rw [labFrom_len, List.length_replicate]
theorem labFrom_co {marks : List Int} {i : Nat} (hi : i < marks.length) : ∀ (vs : List Int) (k : Nat) (ms : List Int), vs.Nodup → ms.length = marks.length → co (labFrom (vs.map (posOf marks)) k ms) i = if co marks i ∈ vs then ((k + vs.idxOf (co marks i) : Nat) : Int) else co ms i
  | [], _, _, _, _ => rfl
  | v :: vs, k, ms, nd, hl => by
    obtain ⟨nv, nd'⟩ := List.nodup_cons.mp nd
    show co (labFrom (vs.map (posOf marks)) (k + 1) _) i = _
    rw [labFrom_co hi vs (k + 1) _ nd' (by rw [fold_len, hl]), fold_co (k : Int) (posOf marks v) ms fun p hp => by
      obtain ⟨j, rfl, hj, _⟩ := mem_posOf.mp hp
      omega]
    have e : ((i : Int) ∈ posOf marks v) ↔ co marks i = v := by
      rw [mem_posOf]
      exact ⟨fun ⟨j, e, _, h⟩ => by rw [show i = j by omega]; exact h, fun h => ⟨i, rfl, hi, h⟩⟩
    by_cases c : co marks i = v
    · rw [if_neg (by rw [c]; exact nv), if_pos (e.mpr c), if_pos (List.mem_cons.mpr (.inl c)), c, List.idxOf_cons_self]
      rfl
    · rw [if_neg (fun z => c (e.mp z))]
      by_cases c2 : co marks i ∈ vs
      · rw [if_pos c2, if_pos (List.mem_cons_of_mem _ c2), List.idxOf_cons, cond_eq_ite, if_neg (by simpa using Ne.symm c)]
        congr 1
        omega
      · rw [if_neg c2, if_neg fun z => (List.mem_cons.mp z).elim c c2]
theorem labL_marks (marks : List Int) : labL (blocksOf marks) marks.length = marks.map fun v => (((seenL [] marks).idxOf v : Nat) : Int) := by
  refine List.ext_getElem? fun i => ?_
  have l1 := labL_len (blocksOf marks) marks.length
  rcases Nat.lt_or_ge i marks.length with c | c
  · rw [co_get (by omega), List.getElem?_map, co_get c]
    unfold labL blocksOf
    rw [labFrom_co c (seenL [] marks) 0 _ (seenL_nodup marks [] List.nodup_nil) List.length_replicate, if_pos ((seenL_mem marks [] _).mpr (.inr (co_mem c))), Nat.zero_add]
    rfl
  · rw [List.getElem?_eq_none (by omega), List.getElem?_eq_none (by rw [List.length_map]; exact c)]
theorem idx_inj {l : List Int} {x y : Int} (hx : x ∈ l) (hy : y ∈ l) (h : (((l.idxOf x : Nat) : Int)) = ((l.idxOf y : Nat) : Int)) : x = y := by
  have h' : l.idxOf x = l.idxOf y := by omega
  have e1 := List.getElem_idxOf (List.idxOf_lt_length_of_mem hx)
  have e2 := List.getElem_idxOf (List.idxOf_lt_length_of_mem hy)
  rw [← e1, ← e2]
  congr 1
theorem blocks_lab (marks : List Int) : blocksOf (labL (blocksOf marks) marks.length) = blocksOf marks := by
  rw [labL_marks]
  exact blocksOf_map fun x hx y hy h => idx_inj ((seenL_mem marks [] x).mpr (.inr hx)) ((seenL_mem marks [] y).mpr (.inr hy)) h

def siz (n m : Int) : Bool := decide (0 ≤ n ∧ n ≤ 8 ∧ 0 ≤ m ∧ m ≤ 8 ∧ n + m ≤ 12)
theorem cr_sortedITK {X : Cx} {K : PySem.W.Frag} (hK : X.K = K) : CallR X (.builtin "sorted") (rSortedIT K) := by
  subst hK
  exact cr_sortedIT
theorem outer_it {J : It} {n : Nat} {G : Hp → Prop} {Y : Nat → Hp → V → Hp → Prop} (w : Walk J n G Y) {B : V → Hp → (Hp → Prop) → Prop} {H0 : Hp} {Qd : Hp → Prop} (Pv : Nat → Hp → Prop) (h0 : Pv 0 H0) (hG : ∀ i H, i ≤ n → Pv i H → G H)
    (hs : ∀ i x H H', i < n → Pv i H → Y i H x H' → B x H' (Pv (i + 1))) (hd : ∀ H, Pv n H → Qd H) :
    ∃ W : Nat → Nat → Hp → Prop, (∃ m, W 0 m H0) ∧ ∀ i m H, W i m H → (J.stop i H ∧ Qd H) ∨ (J.go i H ∧ ∃ Nx : Hp → Prop, (∀ H', Nx H' → ∃ m', m' < m ∧ W (i + 1) m' H') ∧ ∀ x H', J.yld i H x H' → B x H' Nx) := by
  refine ⟨fun i m H => m = n - i ∧ i ≤ n ∧ Pv i H, ⟨n, by simp, Nat.zero_le _, h0⟩, ?_⟩
  rintro i m H ⟨rfl, hi, p⟩
  have q := hG i H hi p
  by_cases hlt : i < n
  · refine .inr ⟨w.goes i H hlt q, Pv (i + 1), fun H' p' => ⟨n - (i + 1), by omega, rfl, hlt, p'⟩, fun x H' y => hs i x H H' hlt p (w.yields i H x H' hlt q y)⟩
  · have e : i = n := by omega
    subst e
    exact .inl ⟨w.stops H q, hd H p⟩
/-- a tuple of tuples of integers; a diagram -/
def TT (H : Hp) (v : V) (bs : List (List Int)) : Prop := ∃ tb ts, v = .ref tb ∧ H tb = some (.tup ts) ∧ Paired (TP H) ts bs
def DGv (H : Hp) (v : V) (n m : Int) (bs : List (List Int)) : Prop := ∃ t vb, v = .ref t ∧ H t = some (.tup [.int n, .int m, vb]) ∧ TT H vb bs
theorem TT.same {H H' : Hp} {v : V} {bs : List (List Int)} (s : Same H H') (h : TT H v bs) : TT H' v bs := by
  obtain ⟨tb, ts, rfl, h, pr⟩ := h
  exact ⟨tb, ts, rfl, s _ _ h, Paired.mapP pr fun _ _ h => h.same s⟩
theorem DGv.same {H H' : Hp} {v : V} {n m : Int} {bs : List (List Int)} (s : Same H H') (h : DGv H v n m bs) : DGv H' v n m bs := by
  obtain ⟨t, vb, rfl, h, tt⟩ := h
  exact ⟨t, vb, rfl, s _ _ h, tt.same s⟩
def dTT (bs : List (List Int)) : PyData := .tuple (bs.map dT)
def dDG (n m : Int) (bs : List (List Int)) : PyData := .tuple [.int n, .int m, dTT bs]
theorem TT.dp {K : PySem.W.Frag} {H : Hp} {v : V} {bs : List (List Int)} (h : TT H v bs) : Dp K H v (dTT bs) := by
  obtain ⟨tb, ts, rfl, h, pr⟩ := h
  exact .tup (.inl (.inl h)) (tps_dp pr)
theorem DGv.dp {K : PySem.W.Frag} {H : Hp} {v : V} {n m : Int} {bs : List (List Int)} (h : DGv H v n m bs) : Dp K H v (dDG n m bs) := by
  obtain ⟨t, vb, rfl, h, tt⟩ := h
  exact .tup (.inl (.inl h)) (.cons (.int n) (.cons (.int m) (.cons tt.dp .nil)))
theorem lay_dTs : ∀ bs : List (List Int), PyData.canLayAll0 (bs.map dT) = true ∧ PyData.depthAll (bs.map dT) ≤ 1
  | [] => ⟨by simp [PyData.canLayAll0], by simp [PyData.depthAll]⟩
  | b :: bs => by
    obtain ⟨h1, h2⟩ := lay_dTs bs
    obtain ⟨h3, h4⟩ := lay_ints b
    have e1 : PyData.canLay0 (dT b) = true := by simp [dT, PyData.canLay0, h3]
    have e2 : PyData.depth (dT b) = 1 := by simp [dT, PyData.depth, h4]
    refine ⟨by simp [PyData.canLayAll0, e1, h1], ?_⟩
    simp only [List.map_cons, PyData.depthAll, e2]
    omega
theorem dTT_lay (bs : List (List Int)) : PyData.canLay0 (dTT bs) = true ∧ PyData.depth (dTT bs) ≤ 2 := by
  obtain ⟨h1, h2⟩ := lay_dTs bs
  exact ⟨by simp [dTT, PyData.canLay0, h1], by simp only [dTT, PyData.depth]; omega⟩
theorem dDG_lay (n m : Int) (bs : List (List Int)) : PyData.canLay0 (dDG n m bs) = true ∧ PyData.depth (dDG n m bs) ≤ 3 := by
  obtain ⟨h1, h2⟩ := dTT_lay bs
  exact ⟨by simp [dDG, PyData.canLay0, PyData.canLayAll0, h1], by simp only [dDG, PyData.depth, PyData.depthAll]; omega⟩
theorem dTT_shaped (bs : List (List Int)) : SeqAt.shaped (dTT bs) = true := by
  obtain ⟨h1, h2⟩ := dTT_lay bs
  show (PyData.canLay0 (dTT bs) && decide (PyData.depth (dTT bs) ≤ 64)) = true
  rw [h1, decide_eq_true (by omega)]
  rfl
theorem dDG_shaped (n m : Int) (bs : List (List Int)) : SeqAt.shaped (dDG n m bs) = true := by
  obtain ⟨h1, h2⟩ := dDG_lay n m bs
  show (PyData.canLay0 (dDG n m bs) && decide (PyData.depth (dDG n m bs) ≤ 64)) = true
  rw [h1, decide_eq_true (by omega)]
  rfl
/-- lists of integers -/
def dL (z : List Int) : PyData := .list (z.map PyData.int)
def LP (H : Hp) (v : V) (z : List Int) : Prop := ∃ t, v = .ref t ∧ H t = some (.lst (z.map V.int))
theorem LP.dp {K : PySem.W.Frag} {H : Hp} {v : V} {z : List Int} (h : LP H v z) : Dp K H v (dL z) := by
  obtain ⟨t, rfl, h⟩ := h
  exact .lst (.inl (.inl h)) (ints_dp z)
theorem LP.same {H H' : Hp} {v : V} {z : List Int} (s : Same H H') (h : LP H v z) : LP H' v z := by
  obtain ⟨t, rfl, h⟩ := h
  exact ⟨t, rfl, s _ _ h⟩
theorem dL_shaped (x : List Int) : SeqAt.shaped (dL x) = true := by
  obtain ⟨h1, h2⟩ := lay_ints x
  show (PyData.canLay0 (dL x) && decide (PyData.depth (dL x) ≤ 64)) = true
  unfold dL
  rw [show PyData.canLay0 (.list (x.map PyData.int)) = true by simp [PyData.canLay0, h1], show PyData.depth (.list (x.map PyData.int)) = 1 by simp [PyData.depth, h2]]
  rfl
theorem eqv_dL (x y : List Int) : PyData.eqv (dL x) (dL y) = decide (x = y) := by
  unfold dL
  simp only [PyData.eqv, eqvAll_ints]
theorem eqD_LP {K : PySem.W.Frag} {H : Hp} {u v : V} {x y : List Int} {Q : VK} (hx : LP H u x) (hy : LP H v y) (q : Q (.bl (decide (x = y))) H) : rEqD K u v H Q :=
  ⟨_, _, hx.dp, hy.dp, dL_shaped x, dL_shaped y, by rw [eqv_dL]; exact q⟩
theorem neD_LP {K : PySem.W.Frag} {H : Hp} {u v : V} {x y : List Int} {Q : VK} (hx : LP H u x) (hy : LP H v y) (q : Q (.bl (!decide (x = y))) H) : rNeD K u v H Q :=
  ⟨_, _, hx.dp, hy.dp, dL_shaped x, dL_shaped y, by rw [eqv_dL]; exact q⟩
theorem tt_get {H : Hp} {ts : List V} {bs : List (List Int)} (pr : Paired (TP H) ts bs) {i : Nat} {y : V} (h : ts[i]? = some y) : ∃ b, bs[i]? = some b ∧ TP H y b := by
  induction pr generalizing i with
  | nil => exact nomatch h
  | cons r t ih =>
    cases i with
    | zero =>
      obtain rfl := Option.some.inj h
      exact ⟨_, rfl, r⟩
    | succ i => exact ih h
theorem rgV_ixs {a : Int} (h : 0 ≤ a) : rgV 0 a = (ixs a.toNat).map V.int := by
  unfold rgV ixs
  rw [List.map_map, Int.sub_zero]
  refine List.map_congr_left fun i _ => ?_
  show V.int (0 + (i : Nat)) = V.int (i : Int)
  rw [Int.zero_add]
theorem ixs_len (N : Nat) : (ixs N).length = N := by
  unfold ixs
  rw [List.length_map, List.length_range]
theorem ixs_asc (N : Nat) : (ixs N).Pairwise (· ≤ ·) := by
  unfold ixs
  exact List.pairwise_map.mpr ((range_lt N).imp fun {a b} h => by omega)
theorem sorted_same {a b : List Int} (hp : a.Perm b) (ha : a.Pairwise (· ≤ ·)) (hb : b.Pairwise (· ≤ ·)) : a = b := hp.eq_of_pairwise (fun x y _ _ h1 h2 => Int.le_antisymm h1 h2) ha hb
structure IsDg (n m : Int) (bs : List (List Int)) : Prop where
  sz : siz n m = true
  ne : ∀ b ∈ bs, b ≠ []
  pm : bs.flatten.Perm (ixs (n + m).toNat)
  asc : ∀ b ∈ bs, b.Pairwise (· ≤ ·)
  hd : (bs.map fun b => co b 0).Pairwise (· ≤ ·)
theorem siz_iff {n m : Int} : siz n m = true ↔ (0 ≤ n ∧ n ≤ 8 ∧ 0 ≤ m ∧ m ≤ 8 ∧ n + m ≤ 12) := by
  unfold siz
  exact decide_eq_true_iff
theorem isDg_blocks {n m : Int} {marks : List Int} (h : siz n m = true) (hl : (marks.length : Int) = n + m) : IsDg n m (blocksOf marks) := by
  have hs := siz_iff.mp h
  refine ⟨h, blocks_ne, ?_, fun b hb => ?_, (blocks_heads marks).imp fun {a b} h => by omega⟩
  · have := blocks_perm marks
    rwa [show marks.length = (n + m).toNat by omega] at this
  · obtain ⟨v, _, rfl⟩ := List.mem_map.mp hb
    exact (posOf_asc marks v).imp fun {a b} h => by omega

section
variable {P : Program} {w : World} {K : PySem.W.Frag} {mg : Str → Option Value} {base : Heap}
/-! ### _is_size, _check_size -/
def spIsSize : Sp := fun vs H Q _ => ∃ n m : Int, vs = [.int n, .int m] ∧ Q (.bl (siz n m)) H
theorem ok_is_size_ {f : Addr} {fd : FuncData} {t8 t12 : Tok} (F : Fun K "_is_size" "_is_size" s_is_size_ f fd) (m_MOST_ON_A_SIDE : mg "MOST_ON_A_SIDE" = some (.int 8 t8)) (m_MOST_POINTS : mg "MOST_POINTS" = some (.int 12 t12)) : FnOk P w K mg base CX0 1 f fd ["n", "m"] spIsSize := by
  have r_MOST_ON_A_SIDE : RelV (.int 8) (.int 8 t8) := ⟨_, rfl⟩
  have r_MOST_POINTS : RelV (.int 12) (.int 12 t12) := ⟨_, rfl⟩
  refine F.ok sc_is_size_ (fun vs H Q E h => ?_) (fun cdv A outer s H vs Q E hr h => ?_)
  · obtain ⟨n, m, rfl, _⟩ := h
    rfl
  · obtain ⟨n, m, rfl, q⟩ := h
    refine ⟨_, (pss_one (ps_ret (pe_and (pe_chain op_le op_le pe_int (pv 0) (pe_glob rfl m_MOST_ON_A_SIDE r_MOST_ON_A_SIDE)) (pe_and (pe_chain op_le op_le pe_int (pv 1) (pe_glob rfl m_MOST_ON_A_SIDE r_MOST_ON_A_SIDE)) (pe_one (pe_cmpR op_le (pe_op op_add (pv 0) (pv 1)) (pe_glob rfl m_MOST_POINTS r_MOST_POINTS) (nomark _))))))), ?_⟩
    unfold siz at q
    refine ⟨_, rfl, _, _, rfl, rfl, _, rfl, ?_⟩
    by_cases c0 : 0 ≤ n
    · rw [decide_eq_true c0]
      refine iteT ⟨_, _, rfl, rfl, _, rfl, ?_⟩
      by_cases c1 : n ≤ 8
      · rw [decide_eq_true c1]
        refine iteT ⟨_, rfl, _, _, rfl, rfl, _, rfl, ?_⟩
        by_cases c2 : 0 ≤ m
        · rw [decide_eq_true c2]
          refine iteT ⟨_, _, rfl, rfl, _, rfl, ?_⟩
          by_cases c3 : m ≤ 8
          · rw [decide_eq_true c3]
            refine iteT ⟨_, rfl, _, rfl, _, _, rfl, rfl, _, _, rfl, rfl, ?_⟩
            rwa [show decide (0 ≤ n ∧ n ≤ 8 ∧ 0 ≤ m ∧ m ≤ 8 ∧ n + m ≤ 12) = decide (n + m ≤ 12) from decide_eq_decide.mpr ⟨fun z => z.2.2.2.2, fun z => ⟨c0, c1, c2, c3, z⟩⟩] at q
          · rw [decide_eq_false c3]
            rw [decide_eq_false fun z => c3 z.2.2.2.1] at q
            exact iteF q
        · rw [decide_eq_false c2]
          rw [decide_eq_false fun z => c2 z.2.2.1] at q
          exact iteF ⟨_, rfl, iteF q⟩
      · rw [decide_eq_false c1]
        rw [decide_eq_false fun z => c1 z.2.1] at q
        exact iteF q
    · rw [decide_eq_false c0]
      rw [decide_eq_false fun z => c0 z.1] at q
      exact iteF ⟨_, rfl, iteF q⟩
def spCheckSize (CB : Addr) : Sp := fun vs H Q E => ∃ n m : Int, vs = [.int n, .int m] ∧ (siz n m = true → Q .non H) ∧ (siz n m = false → E (.ref CB) none H)
theorem ok_check_size_ {f CB a_is_size_ : Addr} {fd fd_is_size_ : FuncData} (F : Fun K "_check_size" "_check_size" s_check_size_ f fd) (T : ErrC K mg "BadNumber" CB)
    (G_is_size_ : FnOk P w K mg base CX0 1 a_is_size_ fd_is_size_ ["n", "m"] spIsSize) (g_is_size_ : mg "_is_size" = some (.ref a_is_size_)) (k_is_size_ : PySem.W.keepIn K (.ref a_is_size_) = true) (b_is_size_ : Binds K fd_is_size_ ["n", "m"] []) :
    FnOk P w K mg base (L2N.CX P w) 2 f fd ["n", "m"] (spCheckSize CB) := by
  obtain ⟨gc_BadNumber, x_BadNumber, kc_BadNumber, bc_BadNumber, tc_BadNumber⟩ := T
  refine F.okXN sc_check_size_ (fun vs H Q E h => ?_) (fun cdv A outer s H vs Q E hr h => ?_)
  · obtain ⟨n, m, rfl, _⟩ := h
    rfl
  · obtain ⟨n, m, rfl, q1, q2⟩ := h
    refine ⟨_, (pss_one (ps_if (pt_not (pt_val (pe_call G_is_size_ (hr.mono (by decide)) rfl g_is_size_ k_is_size_ b_is_size_ .nil pass0 (pa_cons (pv 0) (pa_cons (pv 1) pa_nil))))) (pss_one (L2N.ps_raise rfl (L2N.takes_of rfl rfl rfl rfl) (L2N.pmk_own PySem.F.excBase_ValueError x_BadNumber gc_BadNumber kc_BadNumber (raises_own bc_BadNumber tc_BadNumber) rfl))) pss_nil)), ?_⟩
    refine ⟨_, rfl, _, rfl, n, m, rfl, _, rfl, ?_⟩
    cases e : siz n m with
    | true => exact iteF (q1 e)
    | false => exact iteT (q2 e)
end

theorem any_nil (bs : List (List Int)) : ((bs.map dT).any fun z => PyData.eqv z (dT [])) = bs.any fun b => decide (b = []) := by
  rw [List.any_map]
  congr 1
  funext b
  exact eqv_dT b []
theorem flat_take {bs : List (List Int)} {i : Nat} {b : List Int} (h : bs[i]? = some b) : (bs.take (i + 1)).flatten = (bs.take i).flatten ++ b := by
  rw [List.take_succ, h, List.flatten_append]
  show _ ++ (b ++ []) = _
  rw [List.append_nil]
theorem mem_len {bs : List (List Int)} {b : List Int} (h : b ∈ bs) : b.length ≤ bs.flatten.length := by
  induction bs with
  | nil => exact nomatch h
  | cons c bs ih =>
    rw [List.flatten_cons, List.length_append]
    rcases List.mem_cons.mp h with rfl | h
    · omega
    · have := ih h
      omega
section
variable {P : Program} {w : World} {K : PySem.W.Frag} {mg : Str → Option Value} {base : Heap}
/-! ### is_diagram -/
def DgOk (n m : Int) (bs : List (List Int)) : Prop := n.natAbs ≤ 1000 ∧ m.natAbs ≤ 1000 ∧ bs.length ≤ 1000 ∧ bs.flatten.length ≤ 10000
def spIsDiagram : Sp := fun vs H Q _ => ∃ (v : V) (n m : Int) (bs : List (List Int)), vs = [v] ∧ DGv H v n m bs ∧ DgOk n m bs ∧ ∀ H', Same H H' → (IsDg n m bs → Q (.bl true) H') ∧ (¬ IsDg n m bs → Q (.bl false) H')
theorem ok_is_diagram {f a_is_size_ : Addr} {fd fd_is_size_ : FuncData} (F : Fun K "is_diagram" "is_diagram" s_is_diagram f fd) (z_len : mg "len" = none) (z_list : mg "list" = none) (z_range : mg "range" = none) (z_sorted : mg "sorted" = none) (z_all : mg "all" = none)
    (G_is_size_ : FnOk P w K mg base CX0 1 a_is_size_ fd_is_size_ ["n", "m"] spIsSize) (g_is_size_ : mg "_is_size" = some (.ref a_is_size_)) (k_is_size_ : PySem.W.keepIn K (.ref a_is_size_) = true) (b_is_size_ : Binds K fd_is_size_ ["n", "m"] []) : FnOk P w K mg base CX0 2 f fd ["diagram"] spIsDiagram := by
  refine F.ok sc_is_diagram (fun vs H Q E h => ?_) (fun cdv A outer s H vs Q E hr h => ?_)
  · obtain ⟨v, n, m, bs, rfl, _⟩ := h
    rfl
  · obtain ⟨v, n, m, bs, rfl, hv, ⟨bn, bm, bl, bf⟩, q⟩ := h
    refine ⟨_, (pss_cons (ps_if (pt_cmpR op_ne (pe_callB call_len_seq (by rfl) z_len boot_len (pa_cons (pv 0) pa_nil)) pe_int (nomark _)) (pss_one (ps_ret pe_bl)) pss_nil)
  (pss_cons (ps_asg (pv 0) (pg_tup rfl (pgs_cons (pg_name (i := 1) sc_is_diagram.nd rfl (.inl rfl)) (pgs_cons (pg_name (i := 2) sc_is_diagram.nd rfl (.inl rfl)) (pgs_cons (pg_name (i := 3) sc_is_diagram.nd rfl (.inl rfl)) pgs_nil)))))
  (pss_cons (ps_if (L2.PW.pt (pw_or (pt_not (pt_val (pe_call G_is_size_ (hr.mono (by decide)) rfl g_is_size_ k_is_size_ b_is_size_ .nil pass0 (pa_cons (pv 1) (pa_cons (pv 2) pa_nil))))) (pw_or1 (pt_cmpR (op_inDT (room65 hr)) (pe_tup pa_nil) (pv 3) (by with_unfolding_all rfl))))) (pss_one (ps_ret pe_bl)) pss_nil)
  (pss_cons (ps_setLc2 (i := 4) (own := [("block", 6), ("point", 7)]) (vs1 := [7]) rfl sc_is_diagram.nd rfl rfl (sw_true rfl rfl rfl (by decide +kernel)) (pi_tup (pv 3)) (blkOk_by (N := ["diagram", "n", "m", "blocks", "points", "firsts", "block", "point"]) (sc := defScope s_is_diagram) (by decide +kernel)) (by decide) (fun _ _ _ _ _ => (pg_name (i := 6) sc_is_diagram.nd rfl (.inl rfl))) (fun _ _ _ _ _ => pts_nil) (fun _ _ _ _ _ => ((pi_tupK (K := K) rfl) (pv 6))) (fun _ _ _ _ _ => (pg_name (i := 7) sc_is_diagram.nd rfl (.inl rfl))) (fun _ _ _ _ _ => pts_nil) (fun _ _ _ _ _ => (pv 7)))
  (pss_cons (ps_if (pt_cmpR (op_neD (room64 hr)) (pe_callB cr_sortedI (by rfl) z_sorted boot_sorted (pa_cons (pv 4) pa_nil)) (pe_listRg rfl rfl z_list (prg_1 rfl z_range (pe_op op_add (pv 1) (pv 2)))) (nomark _)) (pss_one (ps_ret pe_bl)) pss_nil)
  (pss_cons (ps_if (pt_not (pt_val (pe_callB (cr_all rfl) (by rfl) z_all boot_all (pa_cons (pe_lc (own := [("block", 6)]) rfl sc_is_diagram.nd (pi_tup (pv 3)) (blkOk_by (N := ["diagram", "n", "m", "blocks", "points", "firsts", "block", "point"]) (sc := defScope s_is_diagram) (by first | decide +kernel | rfl)) (fun _ _ _ _ _ => (pg_name (i := 6) sc_is_diagram.nd rfl (.inl rfl))) (fun _ _ _ _ _ => pts_nil) (fun _ _ _ _ _ => (pe_cmpR (op_eqDK (K := K) rfl (room64 hr)) (pe_callTy (call_list_ofK (K := K) rfl) (by rfl) z_list boot_list (pa_cons (pv 6) pa_nil)) (pe_callB (cr_sortedITK (K := K) rfl) (by rfl) z_sorted boot_sorted (pa_cons (pv 6) pa_nil)) (nomark _)))) pa_nil)))) (pss_one (ps_ret pe_bl)) pss_nil)
  (pss_cons (ps_setLc (i := 5) (own := [("block", 6)]) rfl sc_is_diagram.nd rfl rfl (sw_true rfl rfl rfl (by decide +kernel)) (pi_tup (pv 3)) (blkOk_by (N := ["diagram", "n", "m", "blocks", "points", "firsts", "block", "point"]) (sc := defScope s_is_diagram) (by first | decide +kernel | rfl)) (fun _ _ _ _ _ => (pg_name (i := 6) sc_is_diagram.nd rfl (.inl rfl))) (fun _ _ _ _ _ => pts_nil) (fun _ _ _ _ _ => (pe_ix (ix_tupK (K := K) rfl) (pv 6) pe_int (fun _ _ => rfl))))
  (pss_one (ps_ret (pe_cmpR (op_eqD (room64 hr)) (pv 5) (pe_callB cr_sortedI (by rfl) z_sorted boot_sorted (pa_cons (pv 5) pa_nil)) (nomark _))))))))))), ?_⟩
    have szl : 20000 ≤ sizeLine := by decide
    obtain ⟨t, vb, rfl, ht, tb, ts, rfl, htb, pr⟩ := hv
    have lts : ts.length = bs.length := pr.length
    refine ⟨_, rfl, t, _, rfl, .inr (.inl (.inl ht)), rfl, _, rfl, ite_same ?_⟩
    refine ⟨_, rfl, t, _, rfl, .inl (.inl ht), rfl, _, _, rfl, _, _, rfl, _, _, rfl, rfl, ?_⟩
    refine ⟨_, rfl, _, rfl, n, m, rfl, _, rfl, ?_⟩
    by_cases cs : siz n m = true
    · rw [cs]
      refine iteF ?_
      have hs := siz_iff.mp cs
      refine ⟨(by show 0 ≤ sizeLine; decide), fun e0 ne0 => ?_⟩
      have s0 : Same H (upd H e0 (.tup [])) := same_upd ne0
      have tt : TT (upd H e0 (.tup [])) (.ref tb) bs := TT.same s0 ⟨tb, ts, rfl, htb, pr⟩
      refine ⟨_, rfl, dT [], bs.map dT, .tup (.inl (.inl upd_same)) .nil, tt.dp, dT_shaped [], dTT_shaped bs, _, rfl, ?_⟩
      rw [any_nil]
      have htb1 : upd H e0 (.tup []) tb = some (.tup ts) := s0 _ _ htb
      have pr1 : Paired (TP (upd H e0 (.tup []))) ts bs := Paired.mapP pr fun _ _ h => h.same s0
      revert s0 htb1 pr1
      generalize upd H e0 (.tup []) = H1
      intro s0 htb1 pr1
      clear tt htb pr
      by_cases cn : (bs.any fun b => decide (b = [])) = true
      · rw [cn]
        refine iteT ((q H1 s0).2 fun z => ?_)
        obtain ⟨b, hb, e⟩ := List.any_eq_true.mp cn
        exact z.ne b hb (of_decide_eq_true e)
      rw [Bool.not_eq_true _ |>.mp cn]
      refine iteF ?_
      have ne : ∀ b ∈ bs, b ≠ [] := fun b hb z => cn (List.any_eq_true.mpr ⟨b, hb, decide_eq_true z⟩)
      -- points
      refine ⟨_, rfl, tb, rfl, ⟨_, .inl (.inl htb1)⟩, fun D nD => ?_⟩
      have keepD : ∀ {H' : Hp} {a : Addr} {o : HO}, SameBut D H1 H' → H1 a = some o → H' a = some o := fun sb e => sb _ _ (ne_of_none e nD) e
      refine outer_it walk_tup (fun i H' => SameBut D H1 H' ∧ H' D = some (.lst ((bs.take i).flatten.map V.int))) ⟨SameBut.upd, upd_same⟩ (fun i H' _ hP => .inl (.inl (keepD hP.1 htb1))) (fun i y H2 H3 hi hP hy => ?_) (fun H2 hP => ?_)
      · obtain ⟨sb, hD⟩ := hP
        obtain ⟨e0, hy⟩ := hy
        subst e0
        obtain ⟨b, eb, a, rfl, ha⟩ := tt_get pr1 hy
        have mb := List.mem_of_getElem? eb
        have lb := mem_len mb
        refine ⟨rfl, ?_⟩
        refine ⟨_, rfl, a, rfl, ⟨_, .inl (.inl (keepD sb ha))⟩, outer_it walk_tup (fun j H' => SameBut D H1 H' ∧ H' D = some (.lst (((bs.take i).flatten ++ b.take j).map V.int))) ⟨sb, by rw [List.take_zero, List.append_nil]; exact hD⟩ (fun j H' _ hP => .inl (.inl (keepD hP.1 ha))) (fun j z H4 H5 hj hP hz => ?_) (fun H4 hP => ?_)⟩
        · obtain ⟨sb, hD⟩ := hP
          obtain ⟨e0, hz⟩ := hz
          subst e0
          rw [List.length_map] at hj
          have ez : (b.map V.int)[j]? = some (.int (co b j)) := by rw [List.getElem?_map, co_get hj]; rfl
          obtain rfl : V.int (co b j) = z := Option.some.inj (ez.symm.trans hz)
          refine ⟨rfl, ?_⟩
          refine ⟨_, rfl, _, hD, ?_, sb.trans SameBut.upd, ?_⟩
          · rw [List.length_map, List.length_append, List.length_take]
            have : (bs.take i).flatten.length ≤ bs.flatten.length := by
              have e : (bs.take i ++ bs.drop i).flatten.length = bs.flatten.length := congrArg (fun l : List (List Int) => l.flatten.length) (List.take_append_drop i bs)
              rw [List.flatten_append, List.length_append] at e
              omega
            omega
          · rw [upd_same, take_snoc hj, ← List.append_assoc, List.map_append (l₂ := [co b j])]
            rfl
        · obtain ⟨sb, hD⟩ := hP
          rw [List.length_map, List.take_length] at hD
          exact ⟨sb, by rw [flat_take eb]; exact hD⟩
      obtain ⟨sb2, hD⟩ := hP
      rw [lts, List.take_length] at hD
      have s2 : Same H1 H2 := fun b o e => keepD sb2 e
      -- sorted
      refine ⟨_, rfl, D, bs.flatten, rfl, .inl (.inl hD), fun ns' p1 pm1 srt1 np1 => ?_⟩
      refine ⟨_, rfl, _, rfl, _, _, rfl, rfl, n + m, rfl, RgOk.of_le (by decide) (by omega) (by decide) (by omega), fun p2 np2 => ?_⟩
      rw [rgV_ixs (by omega)]
      have s3 : Same H2 (upd (upd H2 p1 (.lst (ns'.map V.int))) p2 (.lst ((ixs (n + m).toNat).map V.int))) := Same.trans (same_upd np1) (same_upd np2)
      refine neD_LP (x := ns') (y := ixs (n + m).toNat) ⟨p1, rfl, same_upd np2 _ _ upd_same⟩ ⟨p2, rfl, upd_same⟩ ⟨_, rfl, ?_⟩
      have s13 := Same.trans s0 (Same.trans s2 s3)
      have htb4 := s3 _ _ (s2 _ _ htb1)
      have pr4 := Paired.mapP pr1 fun _ _ h => (TP.same s2 h).same s3
      revert s13 htb4 pr4
      generalize upd (upd H2 p1 (.lst (ns'.map V.int))) p2 (.lst ((ixs (n + m).toNat).map V.int)) = H4
      intro s13 htb4 pr4
      clear s3 s2 hD sb2 keepD nD np1 np2
      by_cases cp : ns' = ixs (n + m).toNat
      · rw [decide_eq_true cp]
        refine iteF ?_
        have pm : bs.flatten.Perm (ixs (n + m).toNat) := cp ▸ pm1.symm
        -- blocks
        refine ⟨_, rfl, tb, rfl, ⟨_, .inl (.inl htb4)⟩, fun D5 nD5 => ?_⟩
        have keep5 : ∀ {H' : Hp} {a : Addr} {o : HO}, SameBut D5 H4 H' → H4 a = some o → H' a = some o := fun sb e => sb _ _ (ne_of_none e nD5) e
        refine lc_it walk_tup (fun i H' => SameBut D5 H4 H' ∧ H' D5 = some (.lst (((bs.take i).map fun b => decide (b.Pairwise (· ≤ ·))).map V.bl))) ⟨SameBut.upd, upd_same⟩ (fun i H' _ hP => .inl (.inl (keep5 hP.1 htb4))) (fun i y H5 H6 hi hP hy => ?_) (fun H5 hP => ?_)
        · obtain ⟨sb, hD⟩ := hP
          obtain ⟨e0, hy⟩ := hy
          subst e0
          obtain ⟨b, eb, a, rfl, ha⟩ := tt_get pr4 hy
          refine ⟨rfl, ?_⟩
          have ha5 := keep5 sb ha
          refine ⟨_, rfl, a, _, rfl, .inr (.inl (.inl ha5)), fun l1 nl1 => ?_⟩
          refine ⟨_, rfl, a, b, rfl, .inl (.inl (same_upd nl1 _ _ ha5)), fun ns p pm srt np => ?_⟩
          refine eqD_LP (x := b) (y := ns) ⟨l1, rfl, same_upd np _ _ upd_same⟩ ⟨p, rfl, upd_same⟩ ?_
          have sN := Same.trans (same_upd (o := .lst (b.map V.int)) nl1) (same_upd (o := .lst (ns.map V.int)) np)
          have e : decide (b = ns) = decide (b.Pairwise (· ≤ ·)) := decide_eq_decide.mpr ⟨fun z => by rw [z]; exact srt, fun z => sorted_same pm.symm z srt⟩
          refine ⟨_, sN _ _ hD, by rw [List.length_map, List.length_map, List.length_take]; omega, (sb.trans (Same.but sN)).trans SameBut.upd, ?_⟩
          rw [upd_same, List.take_succ, eb, e, List.map_append, List.map_append]
          rfl
        obtain ⟨sb5, hD5⟩ := hP
        rw [lts, List.take_length] at hD5
        have s5 : Same H4 H5 := fun b o e => keep5 sb5 e
        refine ⟨D5, _, rfl, .inl (.inl hD5), _, rfl, ?_⟩
        have htb5 := s5 _ _ htb4
        have pr5 := Paired.mapP pr4 fun _ _ h => TP.same s5 h
        have s15 := Same.trans s13 s5
        by_cases ca : ((bs.map fun b => decide (b.Pairwise (· ≤ ·))).all id) = true
        · rw [ca]
          refine iteF ?_
          have asc : ∀ b ∈ bs, b.Pairwise (· ≤ ·) := fun b hb => of_decide_eq_true (List.all_eq_true.mp ca _ (List.mem_map_of_mem hb))
          -- firsts
          refine ⟨_, rfl, tb, rfl, ⟨_, .inl (.inl htb5)⟩, fun D6 nD6 => ?_⟩
          have keep6 : ∀ {H' : Hp} {a : Addr} {o : HO}, SameBut D6 H5 H' → H5 a = some o → H' a = some o := fun sb e => sb _ _ (ne_of_none e nD6) e
          refine lc_it walk_tup (fun i H' => SameBut D6 H5 H' ∧ H' D6 = some (.lst (((bs.take i).map fun b => co b 0).map V.int))) ⟨SameBut.upd, upd_same⟩ (fun i H' _ hP => .inl (.inl (keep6 hP.1 htb5))) (fun i y H6 H7 hi hP hy => ?_) (fun H6 hP => ?_)
          · obtain ⟨sb, hD⟩ := hP
            obtain ⟨e0, hy⟩ := hy
            subst e0
            obtain ⟨b, eb, a, rfl, ha⟩ := tt_get pr5 hy
            have nb := List.length_pos_iff.mpr (ne b (List.mem_of_getElem? eb))
            refine ⟨rfl, ?_⟩
            refine ⟨_, rfl, a, _, 0, _, rfl, rfl, .inl (.inl (keep6 sb ha)), at_co nb, _, hD, by rw [List.length_map, List.length_map, List.length_take]; omega, sb.trans SameBut.upd, ?_⟩
            rw [upd_same, List.take_succ, eb, List.map_append, List.map_append]
            rfl
          obtain ⟨sb6, hD6⟩ := hP
          rw [lts, List.take_length] at hD6
          have s6 : Same H5 H6 := fun b o e => keep6 sb6 e
          refine ⟨_, rfl, _, rfl, D6, _, rfl, .inl (.inl hD6), fun ns p pm6 srt np => ?_⟩
          refine eqD_LP (x := bs.map fun b => co b 0) (y := ns) ⟨D6, rfl, same_upd np _ _ hD6⟩ ⟨p, rfl, upd_same⟩ ?_
          obtain ⟨qt, qf⟩ := q _ (Same.trans s15 (Same.trans s6 (same_upd np)))
          by_cases ch : (bs.map fun b => co b 0) = ns
          · rw [decide_eq_true ch]
            exact qt ⟨cs, ne, pm, asc, ch ▸ srt⟩
          · rw [decide_eq_false ch]
            exact qf fun z => ch (sorted_same pm6.symm z.hd srt)
        · rw [Bool.not_eq_true _ |>.mp ca]
          refine iteT ((q H5 s15).2 fun z => ca (List.all_eq_true.mpr fun c hc => ?_))
          obtain ⟨b, hb, rfl⟩ := List.mem_map.mp hc
          exact decide_eq_true (z.asc b hb)
      · rw [decide_eq_false cp]
        exact iteT ((q H4 s13).2 fun z => cp (sorted_same (pm1.trans z.pm) srt1 (ixs_asc _)))
    · rw [Bool.not_eq_true _ |>.mp cs]
      exact iteT ((q H (Same.refl _)).2 fun z => cs z.sz)
end

section
variable {P : Program} {w : World} {K : PySem.W.Frag} {mg : Str → Option Value} {base : Heap}
/-! ### check_diagram, labels -/
def spCheckDiagram (CD : Addr) : Sp := fun vs H Q E => ∃ (v : V) (n m : Int) (bs : List (List Int)), vs = [v] ∧ DGv H v n m bs ∧ DgOk n m bs ∧ ∀ H', Same H H' → (IsDg n m bs → Q .non H') ∧ (¬ IsDg n m bs → E (.ref CD) none H')
theorem ok_check_diagram {f CD a_is_diagram : Addr} {fd fd_is_diagram : FuncData} (F : Fun K "check_diagram" "check_diagram" s_check_diagram f fd) (T : ErrC K mg "NotDiagram" CD)
    (G_is_diagram : FnOk P w K mg base CX0 2 a_is_diagram fd_is_diagram ["diagram"] spIsDiagram) (g_is_diagram : mg "is_diagram" = some (.ref a_is_diagram)) (k_is_diagram : PySem.W.keepIn K (.ref a_is_diagram) = true) (b_is_diagram : Binds K fd_is_diagram ["diagram"] []) :
    FnOk P w K mg base (L2N.CX P w) 3 f fd ["diagram"] (spCheckDiagram CD) := by
  obtain ⟨gc_NotDiagram, x_NotDiagram, kc_NotDiagram, bc_NotDiagram, tc_NotDiagram⟩ := T
  refine F.okXN sc_check_diagram (fun vs H Q E h => ?_) (fun cdv A outer s H vs Q E hr h => ?_)
  · obtain ⟨v, n, m, bs, rfl, _⟩ := h
    rfl
  · obtain ⟨v, n, m, bs, rfl, hv, hb, q⟩ := h
    refine ⟨_, (pss_one (ps_if (pt_not (pt_val (pe_call G_is_diagram (hr.mono (by decide)) rfl g_is_diagram k_is_diagram b_is_diagram .nil pass0 (pa_cons (pv 0) pa_nil)))) (pss_one (L2N.ps_raise rfl (L2N.takes_of rfl rfl rfl rfl) (L2N.pmk_own PySem.F.excBase_ValueError x_NotDiagram gc_NotDiagram kc_NotDiagram (raises_own bc_NotDiagram tc_NotDiagram) rfl))) pss_nil)), ?_⟩
    exact ⟨_, rfl, v, n, m, bs, rfl, hv, hb, fun H' s' => ⟨fun h => ⟨_, rfl, iteF ((q H' s').1 h)⟩, fun h => ⟨_, rfl, iteT ((q H' s').2 h)⟩⟩⟩
end
def labN (bs : List (List Int)) (i : Nat) (N : Nat) : List Int := labFrom (bs.take i) 0 (List.replicate N 0)
theorem labFrom_snoc : ∀ (bs : List (List Int)) (b : List Int) (k : Nat) (ms : List Int), labFrom (bs ++ [b]) k ms = b.foldl (fun ms p => ms.set p.toNat ((k + bs.length : Nat) : Int)) (labFrom bs k ms)
  | [], b, k, ms => rfl
  | c :: bs, b, k, ms => by
    show labFrom (bs ++ [b]) (k + 1) _ = _
    rw [labFrom_snoc bs b (k + 1), show k + 1 + bs.length = k + (c :: bs).length by rw [List.length_cons]; omega]
    rfl
theorem fold_take {k : Int} {b ms : List Int} {j : Nat} (h : j < b.length) : (b.take (j + 1)).foldl (fun ms p => ms.set p.toNat k) ms = ((b.take j).foldl (fun ms p => ms.set p.toNat k) ms).set (co b j).toNat k := by
  rw [take_snoc h, List.foldl_append]
  rfl
theorem dg_pt {n m : Int} {bs : List (List Int)} (h : IsDg n m bs) {b : List Int} (hb : b ∈ bs) {p : Int} (hp : p ∈ b) : 0 ≤ p ∧ p < n + m := by
  have h1 := h.pm.mem_iff.mp (List.mem_flatten.mpr ⟨b, hb, hp⟩)
  obtain ⟨i, hi, rfl⟩ := List.mem_map.mp h1
  have := List.mem_range.mp hi
  omega

section
variable {P : Program} {w : World} {K : PySem.W.Frag} {mg : Str → Option Value} {base : Heap}
def spLabels (CD : Addr) : Sp := fun vs H Q E => ∃ (v : V) (n m : Int) (bs : List (List Int)), vs = [v] ∧ DGv H v n m bs ∧ DgOk n m bs ∧ (¬ IsDg n m bs → ∀ H', Same H H' → E (.ref CD) none H') ∧
  (IsDg n m bs → ∀ D H', Same H H' → H D = none → H' D = some (.lst ((labL bs (n + m).toNat).map V.int)) → Q (.ref D) H')
theorem ok_labels {f CD a_check_diagram : Addr} {fd fd_check_diagram : FuncData} (F : Fun K "labels" "labels" s_labels f fd) (z_enumerate : mg "enumerate" = none) (z_range : mg "range" = none)
    (G_check_diagram : FnOk P w K mg base (L2N.CX P w) 3 a_check_diagram fd_check_diagram ["diagram"] (spCheckDiagram CD)) (g_check_diagram : mg "check_diagram" = some (.ref a_check_diagram)) (k_check_diagram : PySem.W.keepIn K (.ref a_check_diagram) = true) (b_check_diagram : Binds K fd_check_diagram ["diagram"] []) :
    FnOk P w K mg base (L2N.CX P w) 4 f fd ["diagram"] (spLabels CD) := by
  refine F.okXN sc_labels (fun vs H Q E h => ?_) (fun cdv A outer s H vs Q E hr h => ?_)
  · obtain ⟨v, n, m, bs, rfl, _⟩ := h
    rfl
  · obtain ⟨v, n, m, bs, rfl, hv, hb, q1, q⟩ := h
    refine ⟨_, (pss_cons (ps_expr (pe_call G_check_diagram (hr.mono (by decide)) rfl g_check_diagram k_check_diagram b_check_diagram .nil (L2N.passes_call (L2N.takes_of rfl rfl rfl rfl) (fun _ _ _ _ h => h)) (pa_cons (pv 0) pa_nil)))
  (pss_cons (ps_asg (pv 0) (pg_tup rfl (pgs_cons (pg_name (i := 1) sc_labels.nd rfl (.inl rfl)) (pgs_cons (pg_name (i := 2) sc_labels.nd rfl (.inl rfl)) (pgs_cons (pg_name (i := 3) sc_labels.nd rfl (.inl rfl)) pgs_nil)))))
  (pss_cons (ps_setLc (i := 4) (own := [("_", 8)]) rfl sc_labels.nd rfl rfl (sw_true rfl rfl rfl (by decide +kernel)) (pi_range1 rfl z_range (pa_cons (pe_op op_add (pv 1) (pv 2)) pa_nil)) (blkOk_by (N := ["diagram", "n", "m", "blocks", "marks", "k", "block", "point", "_"]) (sc := defScope s_labels) (by first | decide +kernel | rfl)) (fun _ _ _ _ _ => (pg_name (i := 8) sc_labels.nd rfl (.inl rfl))) (fun _ _ _ _ _ => pts_nil) (fun _ _ _ _ _ => pe_int))
  (pss_cons (ps_for (passes_of rfl) rfl (pi_enumT rfl z_enumerate (pa_cons (pv 3) pa_nil)) (pg_tup rfl (pgs_cons (pg_name (i := 5) sc_labels.nd rfl (.inl rfl)) (pgs_cons (pg_name (i := 6) sc_labels.nd rfl (.inl rfl)) pgs_nil))) (pss_one (ps_for (passes_of rfl) rfl (pi_tup (pv 6)) (pg_name (i := 7) sc_labels.nd rfl (.inl rfl)) (pss_one (ps_asg (pv 5) (pg_sub (pv 4) (pv 7) set_list))))))
  (pss_one (ps_ret (pv 4))))))), ?_⟩
    have szl : 20000 ≤ sizeLine := by decide
    refine ⟨_, rfl, v, n, m, bs, rfl, hv, hb, fun H1 s1 => ⟨fun dg => ?_, fun nd => q1 nd H1 s1⟩⟩
    have q := q dg
    have hs := siz_iff.mp dg.sz
    obtain ⟨t, vb, rfl, ht, tb, ts, rfl, htb, pr⟩ := DGv.same s1 hv
    have lts : ts.length = bs.length := pr.length
    refine ⟨_, rfl, t, _, rfl, .inl (.inl ht), rfl, _, _, rfl, _, _, rfl, _, _, rfl, rfl, ?_⟩
    obtain ⟨N, eN⟩ : ∃ N : Nat, n + m = (N : Int) := ⟨(n + m).toNat, by omega⟩
    refine ⟨_, rfl, _, rfl, _, _, rfl, rfl, ?_⟩
    dsimp only
    rw [eN]
    refine ⟨_, rfl, by omega, by omega, fun D nD => lc_range (lo := 0) (n := N) (fun i H' => SameBut D H1 H' ∧ H' D = some (.lst ((List.replicate i (0 : Int)).map V.int))) ⟨SameBut.upd, upd_same⟩ (fun i H' hi hP => ?_) (fun H2 hP => ?_)⟩
    · obtain ⟨sb, hD⟩ := hP
      refine ⟨rfl, _, hD, by rw [List.length_map, List.length_replicate]; omega, sb.trans SameBut.upd, ?_⟩
      rw [upd_same, List.replicate_succ', List.map_append]
      rfl
    obtain ⟨sb, hD2⟩ := hP
    have s2 : Same H1 H2 := fun a o e => sb a o (ne_of_none e nD) e
    have nD1 := nD
    have nD0 := none_back s1 nD1
    have htb2 := s2 _ _ htb
    refine ⟨_, rfl, tb, ts, rfl, .inl (.inl htb2), for_it walk_enumT (fun i σ H' => ∃ v5 v6 v7 v8, σ = [some (.ref t), some (.int n), some (.int m), some (.ref (tb)), some (.ref D), v5, v6, v7, v8] ∧ Same H1 H' ∧ H' D = some (.lst ((labN bs i N).map V.int)))
      ⟨_, _, _, _, rfl, s2, hD2⟩ (fun i σ H' _ ⟨_, _, _, _, _, s', _⟩ => .inl (.inl (s' _ _ htb))) (fun i y σ H3 H4 hi hP hy => ?_) (fun σ H' hP => ?_)⟩
    · obtain ⟨v5, v6, v7, v8, rfl, s3, hD3⟩ := hP
      obtain ⟨p, x, y', rfl, np, rfl, ex, ey⟩ := hy
      obtain rfl : V.int (i : Nat) = x := Option.some.inj ex
      obtain ⟨b, eb, a, rfl, ha⟩ := tt_get pr ey
      have mb := List.mem_of_getElem? eb
      refine ⟨p, _, rfl, .inl (.inl upd_same), rfl, _, _, rfl, _, _, rfl, rfl, ?_⟩
      have s4 : Same H1 (upd H3 p (.tup [.int (i : Nat), .ref a])) := Same.trans s3 (same_upd np)
      have hD4 : upd H3 p (.tup [.int (i : Nat), .ref a]) D = some (.lst ((labN bs i N).map V.int)) := same_upd np _ _ hD3
      revert s4 hD4
      generalize upd H3 p (.tup [.int (i : Nat), .ref a]) = H5
      intro s4 hD4
      have hi' : i < bs.length := by rw [← lts]; exact hi
      refine ⟨_, rfl, a, rfl, ⟨_, .inl (.inl (s4 _ _ ha))⟩, for_it walk_tup (fun j σ H' => ∃ v7, σ = [some (.ref t), some (.int n), some (.int m), some (.ref tb), some (.ref D), some (.int (i : Nat)), some (.ref a), v7, v8] ∧ Same H1 H' ∧ H' D = some (.lst (((b.take j).foldl (fun ms p => ms.set p.toNat (i : Int)) (labN bs i N)).map V.int)))
        ⟨v7, rfl, s4, hD4⟩ (fun j σ H' _ ⟨_, _, s', _⟩ => .inl (.inl (s' _ _ ha))) (fun j y σ H6 H7 hj hP hy => ?_) (fun σ H' hP => ?_)⟩
      · obtain ⟨v7, rfl, s5, hD5⟩ := hP
        obtain ⟨e0, hy⟩ := hy
        subst e0
        rw [List.length_map] at hj
        have ez : (b.map V.int)[j]? = some (.int (co b j)) := by rw [List.getElem?_map, co_get hj]; rfl
        obtain rfl : V.int (co b j) = y := Option.some.inj (ez.symm.trans hy)
        obtain ⟨c0, c1⟩ := dg_pt dg mb (co_mem hj)
        have ll : ((b.take j).foldl (fun ms p => ms.set p.toNat (i : Int)) (labN bs i N)).length = N := by
          rw [fold_len]
          unfold labN
          rw [labFrom_len, List.length_replicate]
        refine ⟨_, rfl, _, rfl, _, rfl, D, _, _, (co b j).toNat, rfl, rfl, hD5, (by obtain ⟨u, hu⟩ := Int.eq_ofNat_of_zero_le c0; rw [hu]; exact ixN_nat (by rw [List.length_map, ll]; omega)), ?_⟩
        refine ⟨_, rfl, Same.mut s5 nD1, ?_⟩
        rw [upd_same, map_set, fold_take hj]
      · obtain ⟨v7, rfl, s5, hD5⟩ := hP
        rw [List.length_map, List.take_length] at hD5
        refine ⟨_, _, _, _, rfl, s5, ?_⟩
        rw [hD5]
        unfold labN
        rw [List.take_succ, eb, show (some b).toList = [b] from rfl, labFrom_snoc, List.length_take, Nat.min_eq_left (by omega), Nat.zero_add]
    · obtain ⟨v5, v6, v7, v8, rfl, s3, hD3⟩ := hP
      refine ⟨_, rfl, q D H' (Same.trans s1 s3) nD0 ?_⟩
      rw [hD3, eN]
      unfold labN labL
      rw [lts, List.take_length]
      rfl
end

theorem posOf_take {marks : List Int} {i : Nat} (h : i < marks.length) (v : Int) : posOf (marks.take (i + 1)) v = if co marks i = v then posOf (marks.take i) v ++ [(i : Int)] else posOf (marks.take i) v := by
  have l1 : (marks.take (i + 1)).length = i + 1 := by rw [List.length_take]; omega
  have l0 : (marks.take i).length = i := by rw [List.length_take]; omega
  have c1 : ∀ j, j < i → co (marks.take (i + 1)) j = co (marks.take i) j := fun j hj => by
    unfold co
    rw [List.getD_eq_getElem?_getD, List.getD_eq_getElem?_getD, List.getElem?_take_of_lt (by omega), List.getElem?_take_of_lt hj]
  have c2 : co (marks.take (i + 1)) i = co marks i := by
    unfold co
    rw [List.getD_eq_getElem?_getD, List.getD_eq_getElem?_getD, List.getElem?_take_of_lt (by omega)]
  unfold posOf
  rw [l1, l0, List.range_succ, List.filter_append, List.map_append]
  have e : (List.range i).filter (fun j => decide (co (marks.take (i + 1)) j = v)) = (List.range i).filter fun j => decide (co (marks.take i) j = v) :=
    List.filter_congr fun j hj => by rw [c1 j (List.mem_range.mp hj)]
  rw [e, List.filter_cons, c2]
  by_cases c : co marks i = v
  · rw [if_pos c, decide_eq_true c]
    rfl
  · rw [if_neg c, decide_eq_false c]
    exact List.append_nil _
theorem posOf_none {marks : List Int} {v : Int} (h : v ∉ marks) : posOf marks v = [] := by
  refine List.eq_nil_iff_forall_not_mem.mpr fun x hx => ?_
  obtain ⟨i, _, hi, e⟩ := mem_posOf.mp hx
  exact h (e ▸ co_mem hi)
/-- a dict by integers -/
def KR (H : Hp) (f : Int → List Int) (kv : Key × V) (u : Int) : Prop := kv.1 = Sum.inl u ∧ TP H kv.2 (f u)
theorem kr_get {H : Hp} {f : Int → List Int} {v : Int} : ∀ {kvs : List (Key × V)} {vs : List Int}, Paired (KR H f) kvs vs → (v ∈ vs → ∃ w, valV kvs (Sum.inl v : Key) = some w ∧ TP H w (f v)) ∧ (v ∉ vs → valV kvs (Sum.inl v : Key) = none)
  | _, _, .nil => ⟨fun h => (nomatch h), fun _ => rfl⟩
  | kv :: kvs, u :: vs, .cons ⟨e, t⟩ pr => by
    obtain ⟨a, b⟩ := kr_get (v := v) pr
    by_cases c : u = v
    · refine ⟨fun _ => ⟨kv.2, valV_pos (by rw [e, c]), by rw [← c]; exact t⟩, fun h => absurd (List.mem_cons.mpr (.inl c.symm)) h⟩
    · have ne : ¬ kv.1 = (Sum.inl v : Key) := fun z => c (Sum.inl.inj (e.symm.trans z))
      refine ⟨fun h => ?_, fun h => ?_⟩
      · rw [valV_neg ne]
        exact a ((List.mem_cons.mp h).resolve_left fun z => c z.symm)
      · rw [valV_neg ne]
        exact b fun z => h (List.mem_cons_of_mem _ z)
theorem kr_map {H : Hp} {f g : Int → List Int} {v : Int} {w : V} (hw : TP H w (g v)) (hg : ∀ u, u ≠ v → g u = f u) : ∀ {kvs : List (Key × V)} {vs : List Int}, Paired (KR H f) kvs vs → Paired (KR H g) (kvs.map fun kv => if kv.1 = (Sum.inl v : Key) then (kv.1, w) else kv) vs
  | _, _, .nil => .nil
  | kv :: kvs, u :: vs, .cons ⟨e, t⟩ pr => by
    rw [List.map_cons]
    refine .cons ?_ (kr_map hw hg pr)
    by_cases c : u = v
    · rw [if_pos (by rw [e, c])]
      exact ⟨e, by rw [c]; exact hw⟩
    · rw [if_neg fun z => c (Sum.inl.inj (e.symm.trans z))]
      exact ⟨e, by rw [hg u c]; exact t⟩
theorem kr_put {H : Hp} {f g : Int → List Int} {v : Int} {w : V} {kvs : List (Key × V)} {vs : List Int} (pr : Paired (KR H f) kvs vs) (hw : TP H w (g v)) (hg : ∀ u, u ≠ v → g u = f u) :
    Paired (KR H g) (putK kvs (Sum.inl v : Key) w) (if v ∈ vs then vs else vs ++ [v]) := by
  obtain ⟨a, b⟩ := kr_get (v := v) pr
  by_cases c : v ∈ vs
  · rw [if_pos c]
    obtain ⟨x, hx, _⟩ := a c
    unfold putK
    rw [if_pos (by rw [valV_any, hx]; rfl)]
    exact kr_map hw hg pr
  · rw [if_neg c, putK_new _ (b c)]
    refine paired_snoc ⟨rfl, hw⟩ ?_
    have e : (kvs.map fun kv => if kv.1 = (Sum.inl v : Key) then (kv.1, w) else kv) = kvs := by
      conv => rhs; rw [← List.map_id kvs]
      refine List.map_congr_left fun kv hkv => ?_
      have : (kvs.any fun kv => decide (kv.1 = (Sum.inl v : Key))) = false := by rw [valV_any, b c]; rfl
      have h1 := List.any_eq_false.mp this kv hkv
      rw [if_neg fun z => h1 (decide_eq_true z)]
      rfl
    have := kr_map hw hg pr
    rwa [e] at this
theorem kr_vals {H : Hp} {f : Int → List Int} : ∀ {kvs : List (Key × V)} {vs : List Int}, Paired (KR H f) kvs vs → Paired (TP H) (kvs.map (·.2)) (vs.map f)
  | _, _, .nil => .nil
  | _, _, .cons ⟨_, t⟩ pr => .cons t (kr_vals pr)
def rCatC : R2 := fun x y H Q => ∃ a b xs ys, x = .ref a ∧ y = .ref b ∧ H a = some (.tup xs) ∧ H b = some (.tup ys) ∧ xs.length + ys.length ≤ sizeLine ∧ ∀ p H', Same H H' → H' p = some (.tup (xs ++ ys)) → Q (.ref p) H'
theorem op_catC {X : Cx} : OpR X (binaryOp .Add) rCatC := by
  intro pins s σ H x y v u Q I rx ry h
  obtain ⟨a, b, xs, ys, rfl, rfl, ha, hb, hz, q⟩ := h
  refine op_catA pins s σ H _ _ v u Q I rx ry ⟨a, b, xs, ys, rfl, rfl, .inl (.inl ha), .inl (.inl hb), hz, fun e => ?_, fun _ e => ?_, fun _ _ p np => ?_⟩
  · exact q b H (Same.refl _) (by rw [e, List.nil_append]; exact hb)
  · exact q a H (Same.refl _) (by rw [e, List.append_nil]; exact ha)
  · exact q p _ (same_upd np) upd_same
section
variable {P : Program} {w : World} {K : PySem.W.Frag} {mg : Str → Option Value} {base : Heap}
/-! ### from_labels -/
def spFromLabels (K : PySem.W.Frag) (CB : Addr) : Sp := fun vs H Q E => ∃ (n m : Int) (a : Addr) (marks : List Int), vs = [.int n, .int m, .ref a] ∧ SqL K H a (marks.map V.int) ∧ marks.length ≤ 1000 ∧ (siz n m = false → E (.ref CB) none H) ∧
  (siz n m = true → ((marks.length : Int) ≠ n + m → E (.ref CB) none H) ∧ ((marks.length : Int) = n + m → ∀ v H', Same H H' → DGv H' v n m (blocksOf marks) → Q v H'))
theorem ok_from_labels {f CB a_check_size_ : Addr} {fd fd_check_size_ : FuncData} (F : Fun K "from_labels" "from_labels" s_from_labels f fd) (T : ErrC K mg "BadNumber" CB) (z_len : mg "len" = none) (z_enumerate : mg "enumerate" = none) (z_tuple : mg "tuple" = none)
    (G_check_size_ : FnOk P w K mg base (L2N.CX P w) 2 a_check_size_ fd_check_size_ ["n", "m"] (spCheckSize CB)) (g_check_size_ : mg "_check_size" = some (.ref a_check_size_)) (k_check_size_ : PySem.W.keepIn K (.ref a_check_size_) = true) (b_check_size_ : Binds K fd_check_size_ ["n", "m"] []) :
    FnOk P w K mg base (L2N.CX P w) 3 f fd ["n", "m", "marks"] (spFromLabels K CB) := by
  obtain ⟨gc_BadNumber, x_BadNumber, kc_BadNumber, bc_BadNumber, tc_BadNumber⟩ := T
  refine F.okXN sc_from_labels (fun vs H Q E h => ?_) (fun cdv A outer s H vs Q E hr h => ?_)
  · obtain ⟨n, m, a, marks, rfl, _⟩ := h
    rfl
  · obtain ⟨n, m, a, marks, rfl, ha, hl, q1, q⟩ := h
    refine ⟨_, (pss_cons (ps_expr (pe_call G_check_size_ (hr.mono (by decide)) rfl g_check_size_ k_check_size_ b_check_size_ .nil (L2N.passes_call (L2N.takes_of rfl rfl rfl rfl) (fun _ _ _ _ h => h)) (pa_cons (pv 0) (pa_cons (pv 1) pa_nil))))
  (pss_cons (ps_if (pt_cmpR op_ne (pe_callB call_len_seq (by rfl) z_len boot_len (pa_cons (pv 2) pa_nil)) (pe_op op_add (pv 0) (pv 1)) (nomark _)) (pss_one (L2N.ps_raise rfl (L2N.takes_of rfl rfl rfl rfl) (L2N.pmk_own PySem.F.excBase_ValueError x_BadNumber gc_BadNumber kc_BadNumber (raises_own bc_BadNumber tc_BadNumber) rfl))) pss_nil)
  (pss_cons (ps_set (i := 3) sc_from_labels.nd rfl (.inl rfl) pe_dnewK)
  (pss_cons (ps_for (passes_of rfl) rfl (pi_enum rfl z_enumerate (pa_cons (pv 2) pa_nil)) (pg_tup rfl (pgs_cons (pg_name (i := 4) sc_from_labels.nd rfl (.inl rfl)) (pgs_cons (pg_name (i := 5) sc_from_labels.nd rfl (.inl rfl)) pgs_nil))) (pss_one (ps_dput (hu_of hr) (pv 3) (pv 5) (pe_op op_catC (pe_dget2 (hu_of hr) (pv 3) (pv 5) (pe_tup pa_nil) ⟨by rfl, by rfl, by rfl, by rfl⟩) (pe_tup (pa_cons (pv 4) pa_nil))) rfl)))
  (pss_one (ps_ret (pe_tup (pa_cons (pv 0) (pa_cons (pv 1) (pa_cons (pe_tupVals rfl rfl z_tuple (pv 3)) pa_nil)))))))))), ?_⟩
    have szl : 20000 ≤ sizeLine := by decide
    refine ⟨_, rfl, _, rfl, n, m, rfl, fun cs => ?_, q1⟩
    obtain ⟨qB, q⟩ := q cs
    refine ⟨_, rfl, a, _, rfl, .inl ha, _, rfl, _, rfl, _, _, rfl, rfl, rfl, _, rfl, ?_⟩
    rw [List.length_map]
    by_cases cl : (marks.length : Int) = n + m
    · refine if_neg_of (by rw [decide_eq_true (congrArg V.int cl)]; exact Bool.false_ne_true) ?_
      have q := q cl
      refine fun D nD => ?_
      refine ⟨_, rfl, a, _, rfl, sqL_same (same_upd nD) ha, for_it walk_enum (fun i σ H' => ∃ (kvs : List (Key × V)) (v4 v5 : Option V), σ = [some (.int n), some (.int m), some (.ref a), some (.ref D), v4, v5] ∧ Same H H' ∧ H' D = some (.dK kvs) ∧ kvs.length ≤ i ∧ Paired (KR H' (posOf (marks.take i))) kvs (seenL [] (marks.take i)))
        ⟨[], none, none, rfl, same_upd nD, upd_same, Nat.le_refl _, .nil⟩ (fun i σ H' _ ⟨_, _, _, _, s', _⟩ => sqL_same s' ha) (fun i y σ H2 H3 hi hP hy => ?_) (fun σ H' hP => ?_)⟩
      · obtain ⟨kvs, v4, v5, rfl, s2, hD2, lk, pr⟩ := hP
        obtain ⟨p, x, y', rfl, np, rfl, ex, ey⟩ := hy
        rw [List.length_map] at hi
        obtain rfl : V.int (i : Nat) = x := Option.some.inj ex
        have ey2 : (marks.map V.int)[i]? = some (.int (co marks i)) := by rw [List.getElem?_map, co_get hi]; rfl
        obtain rfl : V.int (co marks i) = y' := Option.some.inj (ey2.symm.trans ey)
        refine ⟨p, _, rfl, .inl (.inl upd_same), rfl, _, _, rfl, _, _, rfl, rfl, ?_⟩
        have q3 := same_upd (o := .tup [.int (i : Nat), .int (co marks i)]) np
        have hD3 := q3 _ _ hD2
        refine ⟨_, rfl, D, rfl, .inl ⟨kvs, .inl hD3⟩, _, rfl, (by show 0 ≤ sizeLine; decide), fun e ne => ?_⟩
        have q4 := Same.trans q3 (same_upd (o := .tup []) ne)
        have hD4 := q4 _ _ hD2
        have pr4 : Paired (KR _ (posOf (marks.take i))) kvs (seenL [] (marks.take i)) := Paired.mapP pr fun _ _ h => ⟨h.1, h.2.same q4⟩
        refine ⟨_, DGet.k (k := (Sum.inl (co marks i) : Key)) hD4, ?_⟩
        obtain ⟨w0, ew, tw⟩ : ∃ w0, (valV kvs (Sum.inl (co marks i) : Key)).getD (.ref e) = w0 ∧ TP (upd (upd H2 p (.tup [.int (i : Nat), .int (co marks i)])) e (.tup [])) w0 (posOf (marks.take i) (co marks i)) := by
          by_cases c : co marks i ∈ seenL [] (marks.take i)
          · obtain ⟨w0, h1, h2⟩ := (kr_get (v := co marks i) pr4).1 c
            exact ⟨w0, by rw [h1]; rfl, h2⟩
          · rw [(kr_get (v := co marks i) pr4).2 c, posOf_none fun z => c ((seenL_mem _ _ _).mpr (.inr z))]
            exact ⟨.ref e, rfl, e, rfl, upd_same⟩
        rw [ew]
        obtain ⟨t0, rfl, ht0⟩ := tw
        refine ⟨_, rfl, (by show 1 ≤ sizeLine; decide), fun p1 np1 => ?_⟩
        have q5 := same_upd (o := .tup [.int (i : Nat)]) np1
        have lpos : (posOf (marks.take i) (co marks i)).length ≤ i := by
          unfold posOf
          rw [List.length_map]
          have h1 := List.length_filter_le (fun j => decide (co (marks.take i) j = co marks i)) (List.range (marks.take i).length)
          rw [List.length_range] at h1
          have h2 : (marks.take i).length ≤ i := by rw [List.length_take]; omega
          omega
        refine ⟨t0, p1, _, [.int (i : Nat)], rfl, rfl, q5 _ _ ht0, upd_same, by rw [List.length_map]; show _ + 1 ≤ _; omega, fun t H6 s6 ht => ?_⟩
        have s26 := Same.trans q4 (Same.trans q5 s6)
        have hD6 := s26 _ _ hD2
        refine ⟨_, rfl, _, rfl, D, _, rfl, DPut.k (k := (Sum.inl (co marks i) : Key)) hD6 (by omega), ?_⟩
        have tnew : TP H6 (.ref t) (posOf (marks.take (i + 1)) (co marks i)) := ⟨t, rfl, by rw [posOf_take hi, if_pos rfl, List.map_append]; exact ht⟩
        have pr6 := kr_put (g := posOf (marks.take (i + 1))) (Paired.mapP pr fun _ _ h => ⟨h.1, h.2.same s26⟩ : Paired (KR H6 (posOf (marks.take i))) kvs (seenL [] (marks.take i))) tnew fun u hu => by rw [posOf_take hi, if_neg (Ne.symm hu)]
        have keepT : ∀ {x : V} {z : List Int}, TP H6 x z → TP (upd H6 D (.dK (putK kvs (Sum.inl (co marks i) : Key) (.ref t)))) x z := fun {x z} ⟨t, e, h⟩ => ⟨t, e, by rw [upd_ne (ne_of h hD6 (fun z => nomatch z))]; exact h⟩
        refine ⟨_, _, _, rfl, Same.mut (Same.trans s2 s26) nD, upd_same, ?_, ?_⟩
        · unfold putK
          split
          · rw [List.length_map]
            omega
          · rw [List.length_append]
            exact Nat.succ_le_succ lk
        · rw [take_snoc hi, seenL_snoc, ← take_snoc hi]
          exact Paired.mapP pr6 fun _ _ h => ⟨h.1, keepT h.2⟩
      · obtain ⟨kvs, v4, v5, rfl, s2, hD2, lk, pr⟩ := hP
        rw [List.length_map, List.take_length] at pr
        refine ⟨_, rfl, _, rfl, _, rfl, D, kvs, rfl, hD2, fun tb ntb => ?_⟩
        refine ⟨(by show 3 ≤ sizeLine; decide), fun t nt => ?_⟩
        have q3 := same_upd (o := .tup (kvs.map (·.2))) ntb
        have q4 := same_upd (o := .tup [.int n, .int m, .ref tb]) nt
        have sf := Same.trans q3 q4
        refine q (.ref t) _ (Same.trans s2 sf) ⟨t, .ref tb, rfl, upd_same, tb, _, rfl, q4 _ _ upd_same, ?_⟩
        unfold blocksOf
        exact kr_vals (Paired.mapP pr fun _ _ h => ⟨h.1, h.2.same sf⟩)
    · exact if_pos_of (by rw [decide_eq_false fun z => cl (V.int.inj z)]; rfl) (qB cl)
end

/-! ### marks as they are drawn -/
def Strand (n : Nat) (l : List Int) : Prop := ∀ p q : Nat, p < q → q < l.length → co l p = co l q → p < n ∧ n ≤ q
def Mated (l : List Int) : Prop := ∀ p : Nat, p < l.length → ∃ q, q < l.length ∧ q ≠ p ∧ co l q = co l p
structure FamM (z : Str) (n m : Nat) (l : List Int) : Prop where
  st : z = "threads" ∨ z = "loose" → Strand n l
  ma : z = "threads" → n = m → Mated l
  pa : z = "pairs" → (n + m) % 2 = 0 → ∀ v ∈ l, l.count v = 2
  lo : z = "lonepairs" → ∀ v, l.count v ≤ 2
  ev : z = "even" → (n + m) % 2 = 0 → ∀ v, l.count v % 2 = 0
theorem mem_ixs {N : Nat} {x : Int} : x ∈ ixs N ↔ 0 ≤ x ∧ x < (N : Int) := by
  unfold ixs
  rw [List.mem_map]
  constructor
  · rintro ⟨i, hi, rfl⟩
    have := List.mem_range.mp hi
    omega
  · rintro ⟨h0, h1⟩
    exact ⟨x.toNat, List.mem_range.mpr (by omega), by omega⟩
theorem ixs_len' (N : Nat) : (ixs N).length = N := by
  unfold ixs
  rw [List.length_map, List.length_range]
theorem co_ixs {N i : Nat} (h : i < N) : co (ixs N) i = (i : Int) := by
  have e := co_get (l := ixs N) (k := i) (by rw [ixs_len']; exact h)
  unfold ixs at e ⊢
  rw [List.getElem?_map, List.getElem?_range h] at e
  exact (Option.some.inj e).symm
theorem ixs_nodup (N : Nat) : (ixs N).Nodup := by
  unfold ixs
  exact List.pairwise_map.mpr ((range_lt N).imp fun {a b} h => by omega)
theorem co_app_l {a b : List Int} {i : Nat} (h : i < a.length) : co (a ++ b) i = co a i := by
  have e := co_get (l := a ++ b) (k := i) (by rw [List.length_append]; omega)
  rw [List.getElem?_append_left h, co_get h] at e
  exact (Option.some.inj e).symm
theorem co_app_r {a b : List Int} {i : Nat} (h : i < b.length) : co (a ++ b) (a.length + i) = co b i := by
  have e := co_get (l := a ++ b) (k := a.length + i) (by rw [List.length_append]; omega)
  rw [List.getElem?_append_right (by omega), show a.length + i - a.length = i by omega, co_get h] at e
  exact (Option.some.inj e).symm
theorem nodup_erase {l : List Int} (h : l.Nodup) {k : Nat} (hk : k < l.length) {y : Int} (hy : y ∈ l.eraseIdx k) : y ∈ l ∧ y ≠ co l k := by
  refine ⟨List.mem_of_mem_eraseIdx hy, fun e => ?_⟩
  obtain ⟨j, hj⟩ := List.mem_eraseIdx_iff_getElem?.mp hy
  have e2 := co_get hk
  rw [← e] at e2
  have lj := (List.getElem?_eq_some_iff.mp hj.2)
  obtain ⟨lj1, lj2⟩ := lj
  obtain ⟨lk1, lk2⟩ := List.getElem?_eq_some_iff.mp e2
  exact hj.1 ((List.getElem_inj h).mp (lj2.trans lk2.symm))
theorem mem_erase_ne {l : List Int} {k : Nat} (hk : k < l.length) {y : Int} (hy : y ∈ l) (ne : y ≠ co l k) : y ∈ l.eraseIdx k := by
  obtain ⟨j, hj, e⟩ := mem_get hy
  refine List.mem_eraseIdx_iff_getElem?.mpr ⟨j, fun c => ne ?_, ?_⟩
  · rw [← e, c]
  · rw [co_get hj, e]
/-- while marks are threaded -/
structure ThrI (n m i : Nat) (l ls : List Int) : Prop where
  len : l.length = n + m
  up : ∀ p : Nat, p < n → co l p = p
  low : ∀ j : Nat, j < m → co l (n + j) = -1 - (j : Int) ∨ (0 ≤ co l (n + j) ∧ co l (n + j) < i)
  dis : ∀ j j' : Nat, j < j' → j' < m → co l (n + j) ≠ co l (n + j')
  nd : ls.Nodup
  free : ∀ x ∈ ls, ∃ j : Nat, x = j ∧ j < m ∧ co l (n + j) = -1 - (j : Int)
  rest : ∀ j : Nat, j < m → (j : Int) ∉ ls → 0 ≤ co l (n + j)
  cap : ls.length ≤ m
structure ThrT (n m i : Nat) (l ls : List Int) : Prop where
  many : ls.length = m - i
  hit : ∀ a : Nat, a < i → ∃ j, j < m ∧ co l (n + j) = a
theorem ThrI.skip {n m i : Nat} {l ls : List Int} (h : ThrI n m i l ls) : ThrI n m (i + 1) l ls :=
  ⟨h.len, h.up, fun j hj => (h.low j hj).imp_right fun z => ⟨z.1, by omega⟩, h.dis, h.nd, h.free, h.rest, h.cap⟩
theorem thr_at {n m i : Nat} {l ls : List Int} (h : ThrI n m i l ls) {k : Nat} (hk : k < ls.length) : ∃ j : Nat, co ls k = j ∧ j < m ∧ co l (n + j) = -1 - (j : Int) := h.free _ (co_mem hk)
theorem ThrI.step {n m i : Nat} {l ls : List Int} (h : ThrI n m i l ls) {k j : Nat} (hk : k < ls.length) (hj : j < m) (ej : co ls k = j) : ThrI n m (i + 1) (l.set (n + j) (i : Int)) (ls.eraseIdx k) := by
  have hl := h.len
  have c : ∀ p : Nat, co (l.set (n + j) (i : Int)) p = if p = n + j then (i : Int) else co l p := fun p => co_set p (by omega)
  refine ⟨by rw [List.length_set]; exact hl, fun p hp => ?_, fun j' hj' => ?_, fun j1 j2 h1 h2 => ?_, h.nd.sublist (List.eraseIdx_sublist _ _), fun x hx => ?_, fun j' hj' hn => ?_, by rw [List.length_eraseIdx_of_lt hk]; have := h.cap; omega⟩
  · rw [c, if_neg (by omega)]
    exact h.up p hp
  · rw [c]
    by_cases e : j' = j
    · rw [if_pos (by omega)]
      exact .inr ⟨by omega, by omega⟩
    · rw [if_neg (by omega)]
      exact (h.low j' hj').imp_right fun z => ⟨z.1, by omega⟩
  · rw [c, c]
    have d := h.dis j1 j2 h1 h2
    have l1 := h.low j1 (by omega)
    have l2 := h.low j2 (by omega)
    by_cases e1 : j1 = j
    · rw [if_pos (by omega), if_neg (by omega)]
      omega
    · rw [if_neg (by omega)]
      by_cases e2 : j2 = j
      · rw [if_pos (by omega)]
        omega
      · rw [if_neg (by omega)]
        exact d
  · obtain ⟨hx1, hx2⟩ := nodup_erase h.nd hk hx
    obtain ⟨j', e1, e2, e3⟩ := h.free x hx1
    refine ⟨j', e1, e2, ?_⟩
    rw [c, if_neg (by omega)]
    exact e3
  · rw [c]
    by_cases e : j' = j
    · rw [if_pos (by omega)]
      omega
    · rw [if_neg (by omega)]
      exact h.rest j' hj' fun z => hn (mem_erase_ne hk z (by rw [ej]; omega))
theorem ThrT.step {n m i : Nat} {l ls : List Int} (h : ThrI n m i l ls) (t : ThrT n m i l ls) {k j : Nat} (hk : k < ls.length) (hj : j < m) (ej : co ls k = j) : ThrT n m (i + 1) (l.set (n + j) (i : Int)) (ls.eraseIdx k) := by
  have hl := h.len
  have c : ∀ p : Nat, co (l.set (n + j) (i : Int)) p = if p = n + j then (i : Int) else co l p := fun p => co_set p (by omega)
  refine ⟨by rw [List.length_eraseIdx_of_lt hk, t.many]; omega, fun a ha => ?_⟩
  by_cases e : a = i
  · exact ⟨j, hj, by rw [c, if_pos rfl, e]⟩
  · obtain ⟨j', h1, h2⟩ := t.hit a (by omega)
    refine ⟨j', h1, ?_⟩
    rw [c, if_neg]
    · exact h2
    · intro z
      obtain ⟨j3, e3, _, e4⟩ := thr_at h hk
      rw [z] at h2
      rw [ej] at e3
      have : j3 = j := by omega
      rw [this] at e4
      omega
theorem ThrI.strand {n m i : Nat} {l ls : List Int} (h : ThrI n m i l ls) : Strand n l := by
  intro p q hpq hq e
  have hl := h.len
  rcases Nat.lt_or_ge q n with c | c
  · rw [h.up p (by omega), h.up q c] at e
    omega
  · refine ⟨?_, c⟩
    rcases Nat.lt_or_ge p n with c2 | c2
    · exact c2
    · refine absurd ?_ (h.dis (p - n) (q - n) (by omega) (by omega))
      rw [show n + (p - n) = p by omega, show n + (q - n) = q by omega]
      exact e
theorem ThrI.mated {n : Nat} {l ls : List Int} (h : ThrI n n n l ls) (t : ThrT n n n l ls) : Mated l := by
  intro p hp
  have hl := h.len
  have e0 : ls = [] := List.length_eq_zero_iff.mp (by rw [t.many]; omega)
  rcases Nat.lt_or_ge p n with c | c
  · obtain ⟨j, hj, e⟩ := t.hit p c
    exact ⟨n + j, by omega, by omega, by rw [e, h.up p c]⟩
  · have r := h.rest (p - n) (by omega) (by rw [e0]; exact fun z => nomatch z)
    have lo := h.low (p - n) (by omega)
    rw [show n + (p - n) = p by omega] at r lo
    refine ⟨(co l p).toNat, by omega, by omega, ?_⟩
    rw [h.up _ (by omega)]
    omega
/-- while marks are paired -/
structure PrI (lone : Bool) (N i : Nat) (l ls : List Int) : Prop where
  len : l.length = N
  nd : ls.Nodup
  free : ∀ x ∈ ls, ∃ p : Nat, x = p ∧ p < N ∧ co l p = x ∧ l.count x = 1
  rest : ∀ v, v ∉ ls → l.count v = 0 ∨ l.count v = 2 ∨ (lone = true ∧ l.count v = 1)
  many : lone = false → ls.length + 2 * i = N
  cap : ls.length ≤ N
theorem count_ixs {N : Nat} {x : Int} (h : x ∈ ixs N) : (ixs N).count x = 1 := (ixs_nodup N).count.trans (if_pos h)
theorem PrI.start (lone : Bool) (N : Nat) : PrI lone N 0 (ixs N) (ixs N) :=
  ⟨ixs_len' N, ixs_nodup N, fun x hx => ⟨x.toNat, by have := mem_ixs.mp hx; omega, by have := mem_ixs.mp hx; omega, by have := mem_ixs.mp hx; rw [co_ixs (by omega)]; omega, count_ixs hx⟩, fun v hv => .inl (List.count_eq_zero.mpr hv), fun _ => ixs_len' N, Nat.le_of_eq (ixs_len' N)⟩
theorem PrI.step {lone : Bool} {N i : Nat} {l ls : List Int} {one : Int} (h : PrI lone N i l (one :: ls)) {k p : Nat} (hk : k < ls.length) (hp : p < N) (ep : co ls k = p) : PrI lone N (i + 1) (l.set p one) (ls.eraseIdx k) := by
  obtain ⟨n1, n2⟩ := List.nodup_cons.mp h.nd
  have mx := co_mem hk
  obtain ⟨p', e1, e2, e3, e4⟩ := h.free (co ls k) (List.mem_cons_of_mem _ mx)
  obtain rfl : p' = p := by omega
  have hl := h.len
  have nx : one ≠ co ls k := fun z => n1 (z ▸ mx)
  obtain ⟨po, o1, o2, o3, o4⟩ := h.free one List.mem_cons_self
  have g : l[p']'(by omega) = co ls k := by
    have := co_get (l := l) (k := p') (by omega)
    rw [List.getElem?_eq_getElem (by omega)] at this
    rw [Option.some.inj this, e3]
  have cs : ∀ b, (l.set p' one).count b = l.count b - (if co ls k = b then 1 else 0) + (if one = b then 1 else 0) := by
    intro b
    rw [List.count_set (by omega), g]
    simp only [beq_iff_eq]
  refine ⟨by rw [List.length_set]; exact hl, n2.sublist (List.eraseIdx_sublist _ _), fun y hy => ?_, fun v hv => ?_, fun e => ?_, by have := h.cap; rw [List.length_cons] at this; rw [List.length_eraseIdx_of_lt hk]; omega⟩
  · obtain ⟨h1, h2⟩ := nodup_erase n2 hk hy
    obtain ⟨q, f1, f2, f3, f4⟩ := h.free y (List.mem_cons_of_mem _ h1)
    refine ⟨q, f1, f2, ?_, ?_⟩
    · rw [co_set q (by omega), if_neg (by omega)]
      exact f3
    · rw [cs, if_neg (Ne.symm h2), if_neg (show ¬ one = y from fun z => n1 (z ▸ h1))]
      exact f4
  · rw [cs]
    by_cases c1 : one = v
    · rw [if_pos c1, if_neg fun z => nx (c1.trans z.symm), ← c1, o4]
      exact .inr (.inl rfl)
    · rw [if_neg c1]
      by_cases c2 : co ls k = v
      · rw [if_pos c2, ← c2, e4]
        exact .inl rfl
      · rw [if_neg c2]
        exact h.rest v fun z => by
          rcases List.mem_cons.mp z with z | z
          · exact c1 z.symm
          · exact hv (mem_erase_ne hk z (Ne.symm c2))
  · have := h.many e
    rw [List.length_cons] at this
    rw [List.length_eraseIdx_of_lt hk]
    omega
theorem PrI.skip {N i : Nat} {l ls : List Int} {one : Int} (h : PrI true N i l (one :: ls)) : PrI true N (i + 1) l ls := by
  obtain ⟨n1, n2⟩ := List.nodup_cons.mp h.nd
  refine ⟨h.len, n2, fun y hy => h.free y (List.mem_cons_of_mem _ hy), fun v hv => ?_, (fun e => nomatch e), by have := h.cap; rw [List.length_cons] at this; omega⟩
  by_cases c : v = one
  · obtain ⟨_, _, _, _, e⟩ := h.free one List.mem_cons_self
    exact .inr (.inr ⟨rfl, c ▸ e⟩)
  · exact h.rest v fun z => (List.mem_cons.mp z).elim c hv
theorem PrI.two {N i : Nat} {l ls : List Int} (h : PrI false N i l ls) (e : ls.length < 2 ∨ i = N) (hN : N % 2 = 0) (v : Int) : l.count v = 0 ∨ l.count v = 2 := by
  have m := h.many rfl
  have e0 : ls = [] := List.length_eq_zero_iff.mp (by omega)
  rcases h.rest v (by rw [e0]; exact fun z => nomatch z) with h | h | h
  · exact .inl h
  · exact .inr h
  · exact nomatch h.1
theorem PrI.most {lone : Bool} {N i : Nat} {l ls : List Int} (h : PrI lone N i l ls) (v : Int) : l.count v ≤ 2 := by
  by_cases c : v ∈ ls
  · obtain ⟨_, _, _, _, e⟩ := h.free v c
    omega
  · rcases h.rest v c with h | h | h <;> omega
/-- two marks joined -/
def jn (l : List Int) (x y : Nat) : List Int := l.map fun c => if c = (if co l y > co l x then co l y else co l x) then (if co l y < co l x then co l y else co l x) else c
theorem jn_len (l : List Int) (x y : Nat) : (jn l x y).length = l.length := List.length_map ..
theorem count_merge (lo hi v : Int) : ∀ l : List Int, (l.map fun c => if c = hi then lo else c).count v = if v = lo then l.count lo + (if hi = lo then 0 else l.count hi) else if v = hi then 0 else l.count v
  | [] => by simp
  | a :: l => by
    rw [List.map_cons, List.count_cons, count_merge lo hi v l, List.count_cons, List.count_cons, List.count_cons]
    simp only [beq_iff_eq]
    by_cases c1 : v = lo
    · subst c1
      rw [if_pos rfl, if_pos rfl]
      by_cases c2 : hi = v
      · subst c2
        rw [if_pos rfl, if_pos rfl]
        by_cases c3 : a = hi <;> simp [c3]
      · rw [if_neg c2, if_neg c2]
        by_cases c3 : a = hi
        · subst c3
          rw [if_pos rfl, if_pos rfl, if_neg c2]
          simp
          omega
        · rw [if_neg c3]
          by_cases c4 : a = v
          · simp [c4]
            rw [if_neg (fun z => c3 (c4.trans z))]
            omega
          · simp [c4, c3]
    · rw [if_neg c1, if_neg c1]
      by_cases c2 : v = hi
      · subst c2
        rw [if_pos rfl, if_pos rfl]
        by_cases c3 : a = v
        · rw [if_pos c3, if_neg (Ne.symm c1)]
        · rw [if_neg c3, if_neg c3]
      · rw [if_neg c2, if_neg c2]
        by_cases c3 : a = hi
        · rw [if_pos c3, if_neg (Ne.symm c1), if_neg]
          intro z
          exact c2 (z.symm.trans c3)
        · rw [if_neg c3]
theorem jn_even {l : List Int} {x y : Nat} (h : ∀ v, l.count v % 2 = 0) (v : Int) : (jn l x y).count v % 2 = 0 := by
  unfold jn
  rw [count_merge]
  have h1 := h (if co l y < co l x then co l y else co l x)
  have h2 := h (if co l y > co l x then co l y else co l x)
  have h3 := h v
  revert h1 h2
  generalize (if co l y < co l x then co l y else co l x) = lo
  generalize (if co l y > co l x then co l y else co l x) = hi
  intro h1 h2
  by_cases c1 : v = lo
  · rw [if_pos c1]
    by_cases c2 : hi = lo
    · rw [if_pos c2]
      omega
    · rw [if_neg c2]
      omega
  · rw [if_neg c1]
    by_cases c2 : v = hi
    · rw [if_pos c2]
    · rw [if_neg c2]
      exact h3

/-! ### tuples of tuples, put together and cut -/
theorem paired_drop {α β : Type} {F : α → β → Prop} : ∀ {l : List α} {m : List β} (i : Nat), Paired F l m → Paired F (l.drop i) (m.drop i)
  | _, _, 0, h => h
  | _, _, _ + 1, .nil => .nil
  | _, _, i + 1, .cons _ h => paired_drop i h
theorem paired_take {α β : Type} {F : α → β → Prop} : ∀ {l : List α} {m : List β} (i : Nat), Paired F l m → Paired F (l.take i) (m.take i)
  | _, _, 0, _ => .nil
  | _, _, _ + 1, .nil => .nil
  | _, _, i + 1, .cons a h => .cons a (paired_take i h)
theorem paired_app {α β : Type} {F : α → β → Prop} : ∀ {l l' : List α} {m m' : List β}, Paired F l m → Paired F l' m' → Paired F (l ++ l') (m ++ m')
  | _, _, _, _, .nil, h => h
  | _, _, _, _, .cons a h, h' => .cons a (paired_app h h')
theorem paired_rev {α β : Type} {F : α → β → Prop} : ∀ {l : List α} {m : List β}, Paired F l m → Paired F l.reverse m.reverse
  | _, _, .nil => .nil
  | _, _, .cons a h => by
    rw [List.reverse_cons, List.reverse_cons]
    exact paired_app (paired_rev h) (.cons a .nil)
def cutL {α : Type} (xs : List α) (lo hi : Option Int) : List α := (xs.drop (HT.sIx xs.length 0 lo)).take (HT.sIx xs.length xs.length hi - HT.sIx xs.length 0 lo)
theorem sIx_all (n : Nat) (h : HT.sIx n 0 none = 0 ∧ HT.sIx n n none = n) : True := trivial
def rCatTT : R2 := fun x y H Q => ∃ bs cs, TT H x bs ∧ TT H y cs ∧ bs.length + cs.length ≤ sizeLine ∧ ∀ v H', Same H H' → TT H' v (bs ++ cs) → Q v H'
theorem op_catTT {X : Cx} : OpR X (binaryOp .Add) rCatTT := by
  intro pins s σ H x y v u Q I rx ry h
  obtain ⟨bs, cs, ⟨a, ts, rfl, ha, pa⟩, ⟨b, us, rfl, hb, pb⟩, hz, q⟩ := h
  have la : ts.length = bs.length := pa.length
  have lb : us.length = cs.length := pb.length
  refine op_catA pins s σ H _ _ v u Q I rx ry ⟨a, b, ts, us, rfl, rfl, .inl (.inl ha), .inl (.inl hb), by omega, fun e => ?_, fun _ e => ?_, fun _ _ p np => ?_⟩
  · refine q _ H (Same.refl _) ⟨b, us, rfl, hb, ?_⟩
    subst e
    cases pa
    exact pb
  · refine q _ H (Same.refl _) ⟨a, ts, rfl, ha, ?_⟩
    subst e
    cases pb
    rw [List.append_nil]
    exact pa
  · have s1 := same_upd (o := .tup (ts ++ us)) np
    exact q _ _ s1 ⟨p, _, rfl, upd_same, paired_app (Paired.mapP pa fun _ _ h => h.same s1) (Paired.mapP pb fun _ _ h => h.same s1)⟩
def rSlTT : V → Option Int → Option Int → Hp → VK → Prop := fun x lo hi H Q => ∃ bs, TT H x bs ∧ ∀ v H', Same H H' → TT H' v (cutL bs lo hi) → Q v H'
theorem sl_TT {X : Cx} : SlR X rSlTT := by
  intro pins s σ H x v vl vu lo hi sl Q I rx hs pl pu h
  obtain ⟨bs, ⟨a, ts, rfl, ha, pa⟩, q⟩ := h
  have la : ts.length = bs.length := pa.length
  refine sl_tupA pins s σ H _ v vl vu lo hi sl Q I rx hs pl pu ⟨a, ts, rfl, .inl (.inl ha), fun e => ?_, fun _ p np => ?_⟩
  · refine q _ H (Same.refl _) ⟨a, ts, rfl, ha, ?_⟩
    unfold cutL
    rw [← la, e.1, e.2, la]
    show Paired (TP H) ts ((bs.drop 0).take (bs.length - 0))
    rw [List.drop_zero, Nat.sub_zero, List.take_length]
    exact pa
  · have s1 := same_upd (o := .tup (cutV ts lo hi)) np
    refine q _ _ s1 ⟨p, _, rfl, upd_same, ?_⟩
    unfold cutL cutV
    rw [← la]
    exact paired_take _ (paired_drop _ (Paired.mapP pa fun _ _ h => h.same s1))
theorem flat_le {c : Nat} : ∀ {bs : List (List Int)}, (∀ b ∈ bs, b.length ≤ c) → bs.flatten.length ≤ c * bs.length
  | [], _ => Nat.zero_le _
  | b :: bs, h => by
    rw [List.flatten_cons, List.length_append, List.length_cons, Nat.mul_succ]
    have := flat_le (bs := bs) fun b hb => h b (List.mem_cons_of_mem _ hb)
    have := h b List.mem_cons_self
    omega
theorem len_flat : ∀ {bs : List (List Int)}, (∀ b ∈ bs, b ≠ []) → bs.length ≤ bs.flatten.length
  | [], _ => Nat.le_refl _
  | b :: bs, h => by
    rw [List.flatten_cons, List.length_append, List.length_cons]
    have := len_flat (bs := bs) fun b hb => h b (List.mem_cons_of_mem _ hb)
    have := List.length_pos_iff.mpr (h b List.mem_cons_self)
    omega
/-- few blocks, each of few points -/
def Few (c : Nat) (bs : List (List Int)) : Prop := bs.length ≤ c ∧ ∀ b ∈ bs, b.length ≤ 13
theorem Few.ok {n m : Int} {bs : List (List Int)} (h : Few 40 bs) (hn : n.natAbs ≤ 1000) (hm : m.natAbs ≤ 1000) : DgOk n m bs := by
  have := flat_le h.2
  exact ⟨hn, hm, by have := h.1; omega, by have := h.1; omega⟩
theorem Few.cut {c : Nat} {bs : List (List Int)} (h : Few c bs) (i j : Nat) : Few c ((bs.drop i).take j) :=
  ⟨by have := h.1; rw [List.length_take, List.length_drop]; omega, fun b hb => h.2 b (List.mem_of_mem_drop (List.mem_of_mem_take hb))⟩
theorem Few.app {c d : Nat} {bs cs : List (List Int)} (h : Few c bs) (g : Few d cs) : Few (c + d) (bs ++ cs) :=
  ⟨by have := h.1; have := g.1; rw [List.length_append]; omega, fun b hb => (List.mem_append.mp hb).elim (h.2 b) (g.2 b)⟩
theorem Few.more {c d : Nat} {bs : List (List Int)} (h : Few c bs) (hd : c ≤ d) : Few d bs := ⟨Nat.le_trans h.1 hd, h.2⟩
theorem IsDg.few {n m : Int} {bs : List (List Int)} (h : IsDg n m bs) : Few 12 bs := by
  have hs := siz_iff.mp h.sz
  have e := h.pm.length_eq
  rw [ixs_len] at e
  have l1 := len_flat h.ne
  refine ⟨by omega, fun b hb => ?_⟩
  have := mem_len hb
  omega

/-! ### families -/
def strandB (n : Int) (b : List Int) : Bool := decide (b.length = 2) && decide (co b 0 < n ∧ n ≤ co b 1)
def sizeOk (z : Str) (k : Nat) : Bool := if z = "pairs" then decide (k = 2) else if z = "lonepairs" then decide (k ≤ 2) else if z = "even" then decide (k % 2 = 0) else true
def blockOk (z : Str) (n : Int) (b : List Int) : Bool := if z = "threads" then strandB n b else if z = "loose" then decide (b.length = 1) || strandB n b else sizeOk z b.length
def inFam (z : Str) (n : Int) (bs : List (List Int)) : Bool := bs.all (blockOk z n)
theorem inV_str (z : Str) : ∀ l : List Str, inV (.str z) (l.map V.str) = decide (z ∈ l)
  | [] => rfl
  | x :: l => by
    show (eqV (.str x) (.str z) || inV (.str z) (l.map V.str)) = _
    rw [inV_str z l]
    have e : eqV (.str x) (.str z) = decide (x = z) := by
      by_cases c : x = z <;> simp [eqV, c]
    rw [e]
    by_cases c : x = z
    · rw [decide_eq_true c, decide_eq_true (List.mem_cons.mpr (.inl c.symm))]
      rfl
    · rw [decide_eq_false c, Bool.false_or]
      refine decide_eq_decide.mpr ⟨fun z => List.mem_cons_of_mem _ z, fun z => (List.mem_cons.mp z).resolve_left fun z => c z.symm⟩
theorem dec_int {k : Nat} {c : Nat} : decide (V.int (k : Int) = V.int (c : Int)) = decide (k = c) := decide_eq_decide.mpr ⟨fun h => by have := V.int.inj h; omega, fun h => by rw [h]⟩
section
variable {P : Program} {w : World} {K : PySem.W.Frag} {mg : Str → Option Value} {base : Heap}
def spCheckFamily (CF : Addr) : Sp := fun vs H Q E => ∃ z : Str, vs = [.str z] ∧ (z ∈ fams → Q .non H) ∧ (z ∉ fams → E (.ref CF) none H)
theorem ok_check_family {f CF aF : Addr} {fd : FuncData} (F : Fun K "check_family" "check_family" s_check_family f fd) (T : ErrC K mg "NotFamily" CF) (m_FAMILIES : mg "FAMILIES" = some (.ref aF)) (tF : ∀ H, SqT K H aF (fams.map V.str)) :
    FnOk P w K mg base (L2N.CX P w) 1 f fd ["family"] (spCheckFamily CF) := by
  obtain ⟨gc_NotFamily, x_NotFamily, kc_NotFamily, bc_NotFamily, tc_NotFamily⟩ := T
  have r_FAMILIES : RelV (.ref aF) (.ref aF) := rfl
  refine F.okXN sc_check_family (fun vs H Q E h => ?_) (fun cdv A outer s H vs Q E hr h => ?_)
  · obtain ⟨z, rfl, _⟩ := h
    rfl
  · obtain ⟨z, rfl, q1, q2⟩ := h
    refine ⟨_, (pss_one (ps_if (pt_cmpR op_notIn_seq (pv 0) (pe_glob rfl m_FAMILIES r_FAMILIES) (by with_unfolding_all rfl)) (pss_one (L2N.ps_raise rfl (L2N.takes_of rfl rfl rfl rfl) (L2N.pmk_own PySem.F.excBase_ValueError x_NotFamily gc_NotFamily kc_NotFamily (raises_own bc_NotFamily tc_NotFamily) rfl))) pss_nil)), ?_⟩
    refine ⟨_, rfl, aF, _, rfl, .inr (tF _), rfl, rfl, _, rfl, ?_⟩
    rw [show (if true = true then !inV (.str z) (fams.map V.str) else inV (.str z) (fams.map V.str)) = !inV (.str z) (fams.map V.str) from rfl, inV_str]
    by_cases c : z ∈ fams
    · rw [decide_eq_true c]
      exact iteF (q1 c)
    · rw [decide_eq_false c]
      exact iteT (q2 c)
def spIsStrand : Sp := fun vs H Q _ => ∃ (n : Int) (v : V) (b : List Int), vs = [.int n, v] ∧ TP H v b ∧ Q (.bl (strandB n b)) H
theorem ok_is_strand_ {f : Addr} {fd : FuncData} (F : Fun K "_is_strand" "_is_strand" s_is_strand_ f fd) (z_len : mg "len" = none) : FnOk P w K mg base CX0 1 f fd ["n", "block"] spIsStrand := by
  refine F.ok sc_is_strand_ (fun vs H Q E h => ?_) (fun cdv A outer s H vs Q E hr h => ?_)
  · obtain ⟨n, v, b, rfl, _⟩ := h
    rfl
  · obtain ⟨n, v, b, rfl, ⟨t, rfl, ht⟩, q⟩ := h
    refine ⟨_, (pss_one (ps_ret (pe_and (pe_cmpR op_eq (pe_callB call_len_seq (by rfl) z_len boot_len (pa_cons (pv 1) pa_nil)) pe_int (nomark _)) (pe_one (pe_chain op_lt op_le (pe_ix ix_tup (pv 1) pe_int (fun _ _ => rfl)) (pv 0) (pe_ix ix_tup (pv 1) pe_int (fun _ _ => rfl))))))), ?_⟩
    unfold strandB at q
    refine ⟨_, rfl, t, _, rfl, .inr (.inl (.inl ht)), rfl, _, rfl, ?_⟩
    rw [List.length_map, show (2 : Int) = ((2 : Nat) : Int) from rfl, dec_int]
    by_cases c : b.length = 2
    · rw [decide_eq_true c] at q ⊢
      rw [Bool.true_and] at q
      refine iteT ⟨_, rfl, t, _, 0, .int (co b 0), rfl, rfl, .inl (.inl ht), (at_co (k := 0) (by omega)), _, rfl, _, _, rfl, rfl, _, rfl, ?_⟩
      by_cases c1 : co b 0 < n
      · rw [decide_eq_true c1]
        refine iteT ⟨_, rfl, t, _, 1, .int (co b 1), rfl, rfl, .inl (.inl ht), (at_co (k := 1) (by omega)), _, _, rfl, rfl, ?_⟩
        dsimp only
        rw [show decide (n ≤ co b 1) = decide (co b 0 < n ∧ n ≤ co b 1) from decide_eq_decide.mpr ⟨fun h => ⟨c1, h⟩, fun h => h.2⟩]
        exact q
      · rw [decide_eq_false c1]
        refine iteF ?_
        rw [decide_eq_false fun h => c1 h.1] at q
        exact q
    · rw [decide_eq_false c] at q ⊢
      exact iteF q
def spIsBlockSize : Sp := fun vs H Q _ => ∃ (z : Str) (k : Nat), vs = [.str z, .int k] ∧ Q (.bl (sizeOk z k)) H
theorem ok_is_block_size_ {f : Addr} {fd : FuncData} (F : Fun K "_is_block_size" "_is_block_size" s_is_block_size_ f fd) : FnOk P w K mg base CX0 1 f fd ["family", "size"] spIsBlockSize := by
  refine F.ok sc_is_block_size_ (fun vs H Q E h => ?_) (fun cdv A outer s H vs Q E hr h => ?_)
  · obtain ⟨z, k, rfl, _⟩ := h
    rfl
  · obtain ⟨z, k, rfl, q⟩ := h
    refine ⟨_, (pss_cons (ps_if (pt_cmpR op_eq (pv 0) pe_str (nomark _)) (pss_one (ps_ret (pe_cmpR op_eq (pv 1) pe_int (nomark _)))) pss_nil)
  (pss_cons (ps_if (pt_cmpR op_eq (pv 0) pe_str (nomark _)) (pss_one (ps_ret (pe_cmpR op_le (pv 1) pe_int (nomark _)))) pss_nil)
  (pss_cons (ps_if (pt_cmpR op_eq (pv 0) pe_str (nomark _)) (pss_one (ps_ret (pe_cmpR op_eq (pe_op op_mod (pv 1) pe_int) pe_int (nomark _)))) pss_nil)
  (pss_one (ps_ret pe_bl))))), ?_⟩
    unfold sizeOk at q
    refine ⟨_, rfl, rfl, _, rfl, ite2 (fun e => ?_) (fun e => ?_)⟩
    · rw [if_pos (V.str.inj (of_decide_eq_true e))] at q
      refine ⟨_, rfl, rfl, ?_⟩
      rw [show (2 : Int) = ((2 : Nat) : Int) from rfl, dec_int]
      exact q
    rw [if_neg fun z => e (decide_eq_true (congrArg V.str z))] at q
    refine ⟨_, rfl, rfl, _, rfl, ite2 (fun e => ?_) (fun e => ?_)⟩
    · rw [if_pos (V.str.inj (of_decide_eq_true e))] at q
      refine ⟨_, rfl, _, _, rfl, rfl, ?_⟩
      dsimp only
      rw [show decide ((k : Int) ≤ 2) = decide (k ≤ 2) from decide_eq_decide.mpr ⟨fun h => by omega, fun h => by omega⟩]
      exact q
    rw [if_neg fun z => e (decide_eq_true (congrArg V.str z))] at q
    refine ⟨_, rfl, rfl, _, rfl, ite2 (fun e => ?_) (fun e => ?_)⟩
    · rw [if_pos (V.str.inj (of_decide_eq_true e))] at q
      refine ⟨_, rfl, _, _, rfl, rfl, (show (0 : Int) < 2 by decide), rfl, ?_⟩
      have h : decide (V.int ((k : Int) % 2) = V.int 0) = decide (k % 2 = 0) := decide_eq_decide.mpr ⟨fun h => by have := V.int.inj h; omega, fun h => congrArg V.int (by omega)⟩
      dsimp only
      rw [h]
      exact q
    rw [if_neg fun z => e (decide_eq_true (congrArg V.str z))] at q
    exact q
def spIsBlockOf : Sp := fun vs H Q _ => ∃ (z : Str) (n : Int) (v : V) (b : List Int), vs = [.str z, .int n, v] ∧ TP H v b ∧ Q (.bl (blockOk z n b)) H
theorem ok_is_block_of_ {f a_is_strand_ a_is_block_size_ : Addr} {fd fd_is_strand_ fd_is_block_size_ : FuncData} (F : Fun K "_is_block_of" "_is_block_of" s_is_block_of_ f fd) (z_len : mg "len" = none)
    (G_is_strand_ : FnOk P w K mg base CX0 1 a_is_strand_ fd_is_strand_ ["n", "block"] spIsStrand) (g_is_strand_ : mg "_is_strand" = some (.ref a_is_strand_)) (k_is_strand_ : PySem.W.keepIn K (.ref a_is_strand_) = true) (b_is_strand_ : Binds K fd_is_strand_ ["n", "block"] [])
    (G_is_block_size_ : FnOk P w K mg base CX0 1 a_is_block_size_ fd_is_block_size_ ["family", "size"] spIsBlockSize) (g_is_block_size_ : mg "_is_block_size" = some (.ref a_is_block_size_)) (k_is_block_size_ : PySem.W.keepIn K (.ref a_is_block_size_) = true) (b_is_block_size_ : Binds K fd_is_block_size_ ["family", "size"] []) :
    FnOk P w K mg base CX0 2 f fd ["family", "n", "block"] spIsBlockOf := by
  refine F.ok sc_is_block_of_ (fun vs H Q E h => ?_) (fun cdv A outer s H vs Q E hr h => ?_)
  · obtain ⟨z, n, v, b, rfl, _⟩ := h
    rfl
  · obtain ⟨z, n, v, b, rfl, ⟨t, rfl, ht⟩, q⟩ := h
    refine ⟨_, (pss_cons (ps_if (pt_cmpR op_eq (pv 0) pe_str (nomark _)) (pss_one (ps_ret (pe_call G_is_strand_ (hr.mono (by decide)) rfl g_is_strand_ k_is_strand_ b_is_strand_ .nil pass0 (pa_cons (pv 1) (pa_cons (pv 2) pa_nil))))) pss_nil)
  (pss_cons (ps_if (pt_cmpR op_eq (pv 0) pe_str (nomark _)) (pss_one (ps_ret (pe_or (pe_cmpR op_eq (pe_callB call_len_seq (by rfl) z_len boot_len (pa_cons (pv 2) pa_nil)) pe_int (nomark _)) (pe_one (pe_call G_is_strand_ (hr.mono (by decide)) rfl g_is_strand_ k_is_strand_ b_is_strand_ .nil pass0 (pa_cons (pv 1) (pa_cons (pv 2) pa_nil))))))) pss_nil)
  (pss_one (ps_ret (pe_call G_is_block_size_ (hr.mono (by decide)) rfl g_is_block_size_ k_is_block_size_ b_is_block_size_ .nil pass0 (pa_cons (pv 0) (pa_cons (pe_callB call_len_seq (by rfl) z_len boot_len (pa_cons (pv 2) pa_nil)) pa_nil))))))), ?_⟩
    unfold blockOk at q
    refine ⟨_, rfl, rfl, _, rfl, ite2 (fun e => ?_) (fun e => ?_)⟩
    · rw [if_pos (V.str.inj (of_decide_eq_true e))] at q
      exact ⟨_, rfl, _, rfl, n, .ref t, b, rfl, ⟨t, rfl, ht⟩, q⟩
    rw [if_neg fun z => e (decide_eq_true (congrArg V.str z))] at q
    refine ⟨_, rfl, rfl, _, rfl, ite2 (fun e => ?_) (fun e => ?_)⟩
    · rw [if_pos (V.str.inj (of_decide_eq_true e))] at q
      refine ⟨_, rfl, t, _, rfl, .inr (.inl (.inl ht)), rfl, _, rfl, ?_⟩
      rw [List.length_map, show (1 : Int) = ((1 : Nat) : Int) from rfl, dec_int]
      by_cases c : b.length = 1
      · rw [decide_eq_true c] at q ⊢
        exact iteT q
      · rw [decide_eq_false c] at q ⊢
        rw [Bool.false_or] at q
        exact iteF ⟨_, rfl, _, rfl, n, .ref t, b, rfl, ⟨t, rfl, ht⟩, q⟩
    rw [if_neg fun z => e (decide_eq_true (congrArg V.str z))] at q
    refine ⟨_, rfl, _, rfl, t, _, rfl, .inr (.inl (.inl ht)), z, b.length, by rw [List.length_map]; rfl, q⟩
def spIsIn (CF CD : Addr) : Sp := fun vs H Q E => ∃ (z : Str) (v : V) (n m : Int) (bs : List (List Int)), vs = [.str z, v] ∧ DGv H v n m bs ∧ DgOk n m bs ∧ (z ∉ fams → E (.ref CF) none H) ∧ (z ∈ fams → ¬ IsDg n m bs → ∀ H', Same H H' → E (.ref CD) none H') ∧
  (z ∈ fams → IsDg n m bs → ∀ H', Same H H' → Q (.bl (inFam z n bs)) H')
theorem ok_is_in {f CF CD a_check_family a_check_diagram a_is_block_of_ : Addr} {fd fd_check_family fd_check_diagram fd_is_block_of_ : FuncData} (F : Fun K "is_in" "is_in" s_is_in f fd) (z_all : mg "all" = none)
    (G_check_family : FnOk P w K mg base (L2N.CX P w) 1 a_check_family fd_check_family ["family"] (spCheckFamily CF)) (g_check_family : mg "check_family" = some (.ref a_check_family)) (k_check_family : PySem.W.keepIn K (.ref a_check_family) = true) (b_check_family : Binds K fd_check_family ["family"] [])
    (G_check_diagram : FnOk P w K mg base (L2N.CX P w) 3 a_check_diagram fd_check_diagram ["diagram"] (spCheckDiagram CD)) (g_check_diagram : mg "check_diagram" = some (.ref a_check_diagram)) (k_check_diagram : PySem.W.keepIn K (.ref a_check_diagram) = true) (b_check_diagram : Binds K fd_check_diagram ["diagram"] [])
    (G_is_block_of_ : FnOk P w K mg base CX0 2 a_is_block_of_ fd_is_block_of_ ["family", "n", "block"] spIsBlockOf) (g_is_block_of_ : mg "_is_block_of" = some (.ref a_is_block_of_)) (k_is_block_of_ : PySem.W.keepIn K (.ref a_is_block_of_) = true) (b_is_block_of_ : Binds K fd_is_block_of_ ["family", "n", "block"] []) :
    FnOk P w K mg base (L2N.CX P w) 4 f fd ["family", "diagram"] (spIsIn CF CD) := by
  refine F.okXN sc_is_in (fun vs H Q E h => ?_) (fun cdv A outer s H vs Q E hr h => ?_)
  · obtain ⟨z, v, n, m, bs, rfl, _⟩ := h
    rfl
  · obtain ⟨z, v, n, m, bs, rfl, hv, hb, q1, q2, q3⟩ := h
    refine ⟨_, (pss_cons (ps_expr (pe_call G_check_family (hr.mono (by decide)) rfl g_check_family k_check_family b_check_family .nil (L2N.passes_call (L2N.takes_of rfl rfl rfl rfl) (fun _ _ _ _ h => h)) (pa_cons (pv 0) pa_nil)))
  (pss_cons (ps_expr (pe_call G_check_diagram (hr.mono (by decide)) rfl g_check_diagram k_check_diagram b_check_diagram .nil (L2N.passes_call (L2N.takes_of rfl rfl rfl rfl) (fun _ _ _ _ h => h)) (pa_cons (pv 1) pa_nil)))
  (pss_cons (ps_asg (pv 1) (pg_tup rfl (pgs_cons (pg_name (i := 2) sc_is_in.nd rfl (.inr rfl)) (pgs_cons (pg_name (i := 3) sc_is_in.nd rfl (.inl rfl)) (pgs_cons (pg_name (i := 4) sc_is_in.nd rfl (.inl rfl)) pgs_nil)))))
  (pss_one (ps_ret (pe_callB (cr_all rfl) (by rfl) z_all boot_all (pa_cons (pe_lc (own := [("block", 5)]) rfl sc_is_in.nd (pi_tup (pv 4)) (blkOk_by (N := ["family", "diagram", "n", "_", "blocks", "block"]) (sc := defScope s_is_in) (by first | decide +kernel | rfl)) (fun _ _ _ _ _ => (pg_name (i := 5) sc_is_in.nd rfl (.inl rfl))) (fun _ _ _ _ _ => pts_nil) (fun _ _ _ _ _ => (pe_call G_is_block_of_ (hr.mono (by decide)) rfl g_is_block_of_ k_is_block_of_ b_is_block_of_ .nil pass0 (pa_cons (pv 0) (pa_cons (pv 2) (pa_cons (pv 5) pa_nil)))))) pa_nil))))))), ?_⟩
    have szl : 20000 ≤ sizeLine := by decide
    refine ⟨_, rfl, z, rfl, fun mz => ?_, fun nz => q1 nz⟩
    refine ⟨_, rfl, v, n, m, bs, rfl, hv, hb, fun H1 s1 => ⟨fun dg => ?_, fun nd => q2 mz nd H1 s1⟩⟩
    obtain ⟨t, vb, rfl, ht, tb, ts, rfl, htb, pr⟩ := DGv.same s1 hv
    have lts : ts.length = bs.length := pr.length
    have few := dg.few
    refine ⟨_, rfl, t, _, rfl, .inl (.inl ht), rfl, _, _, rfl, _, _, rfl, _, _, rfl, rfl, ?_⟩
    refine ⟨_, rfl, tb, rfl, ⟨_, .inl (.inl htb)⟩, fun D nD => ?_⟩
    have keep : ∀ {H' : Hp} {a : Addr} {o : HO}, SameBut D H1 H' → H1 a = some o → H' a = some o := fun sb e => sb _ _ (ne_of_none e nD) e
    refine lc_it walk_tup (fun i H' => SameBut D H1 H' ∧ H' D = some (.lst (((bs.take i).map (blockOk z n)).map V.bl))) ⟨SameBut.upd, upd_same⟩ (fun i H' _ hP => .inl (.inl (keep hP.1 htb))) (fun i y H5 H6 hi hP hy => ?_) (fun H5 hP => ?_)
    · obtain ⟨sb, hD⟩ := hP
      obtain ⟨e0, hy⟩ := hy
      subst e0
      obtain ⟨b, eb, a, rfl, ha⟩ := tt_get pr hy
      refine ⟨rfl, ?_⟩
      refine ⟨_, rfl, _, rfl, _, rfl, z, n, .ref a, b, rfl, ⟨a, rfl, keep sb ha⟩, _, hD, by rw [List.length_map, List.length_map, List.length_take]; have := few.1; omega, sb.trans SameBut.upd, ?_⟩
      rw [upd_same, List.take_succ, eb, List.map_append, List.map_append]
      rfl
    obtain ⟨sb, hD⟩ := hP
    rw [lts, List.take_length] at hD
    have s5 : Same H1 H5 := fun b o e => keep sb e
    refine ⟨D, _, rfl, .inl (.inl hD), ?_⟩
    rw [show (bs.map (blockOk z n)).all id = inFam z n bs by unfold inFam; rw [List.all_map]; rfl]
    exact q3 mz dg H5 (Same.trans s1 s5)
end

theorem TP.butL {H H' : Hp} {r : Addr} {ys : List V} {v : V} {z : List Int} (hr : H r = some (.lst ys)) (s : SameBut r H H') (h : TP H v z) : TP H' v z := by
  obtain ⟨a, rfl, h⟩ := h
  exact ⟨a, rfl, s _ _ (ne_of h hr (fun z => nomatch z)) h⟩
theorem TT.butL {H H' : Hp} {r : Addr} {ys : List V} {v : V} {bs : List (List Int)} (hr : H r = some (.lst ys)) (s : SameBut r H H') (h : TT H v bs) : TT H' v bs := by
  obtain ⟨a, ts, rfl, h, pr⟩ := h
  exact ⟨a, ts, rfl, s _ _ (ne_of h hr (fun z => nomatch z)) h, Paired.mapP pr fun _ _ h => h.butL hr s⟩
theorem DGv.butL {H H' : Hp} {r : Addr} {ys : List V} {v : V} {n m : Int} {bs : List (List Int)} (hr : H r = some (.lst ys)) (s : SameBut r H H') (h : DGv H v n m bs) : DGv H' v n m bs := by
  obtain ⟨t, vb, rfl, h, tt⟩ := h
  exact ⟨t, vb, rfl, s _ _ (ne_of h hr (fun z => nomatch z)) h, tt.butL hr s⟩
/-- a diagram with these marks -/
def DgAt (H : Hp) (u : V) (n m : Int) (l : List Int) : Prop := DGv H u n m (blocksOf l) ∧ siz n m = true ∧ (l.length : Int) = n + m
theorem DgAt.dg {H : Hp} {u : V} {n m : Int} {l : List Int} (h : DgAt H u n m l) : IsDg n m (blocksOf l) := isDg_blocks h.2.1 h.2.2
theorem DgAt.ok {H : Hp} {u : V} {n m : Int} {l : List Int} (h : DgAt H u n m l) : DgOk n m (blocksOf l) := by
  have := siz_iff.mp h.2.1
  exact (h.dg.few.more (by decide)).ok (by omega) (by omega)
theorem DgAt.same {H H' : Hp} {u : V} {n m : Int} {l : List Int} (s : Same H H') (h : DgAt H u n m l) : DgAt H' u n m l := ⟨h.1.same s, h.2⟩
theorem DgAt.butL {H H' : Hp} {r : Addr} {ys : List V} {u : V} {n m : Int} {l : List Int} (hr : H r = some (.lst ys)) (s : SameBut r H H') (h : DgAt H u n m l) : DgAt H' u n m l := ⟨h.1.butL hr s, h.2⟩
theorem DgAt.ix {H : Hp} {t : Addr} {n m : Int} {l : List Int} (h : DgAt H (.ref t) n m l) : ∃ vb, H t = some (.tup [.int n, .int m, vb]) := by
  obtain ⟨⟨t', vb, e, h, _⟩, _⟩ := h
  obtain rfl := V.ref.inj e
  exact ⟨vb, h⟩
/-- the answer of a comparison is not computed -/
theorem bl_ex {b : Bool} {R : Bool → Prop} (h : R b) : ∃ k, V.bl b = V.bl k ∧ R k := ⟨b, rfl, h⟩
theorem smL_dL {z : List Int} {B : Nat} (h : ∀ x ∈ z, x.natAbs < 2 ^ 200) (hB : z.length ≤ B) : SmL 1 (1923 * B + 3) (dL z) := by
  have e := smL_list (ds := z.map PyData.int) (n := 0) (k := 1921) fun D hD => by
    obtain ⟨a, ha, rfl⟩ := List.mem_map.mp hD
    exact smL_int (h a ha)
  rw [List.length_map] at e
  exact e.more (by show 1923 * z.length + 3 ≤ 1923 * B + 3; omega)
theorem labL_mem {bs : List (List Int)} {N : Nat} : ∀ x ∈ labL bs N, 0 ≤ x ∧ x ≤ (bs.length : Int) := by
  have run : ∀ (bs : List (List Int)) (k : Nat) (ms : List Int) (B : Int), ((k + bs.length : Nat) : Int) ≤ B → (∀ x ∈ ms, 0 ≤ x ∧ x ≤ B) → ∀ x ∈ labFrom bs k ms, 0 ≤ x ∧ x ≤ B := by
    intro bs
    induction bs with
    | nil => exact fun _ _ _ _ h => h
    | cons b bs ih =>
      intro k ms B hk h
      rw [List.length_cons] at hk
      refine ih (k + 1) _ B (by omega) ?_
      clear ih
      induction b generalizing ms with
      | nil => exact h
      | cons p b ih2 =>
        refine ih2 _ fun x hx => ?_
        rcases List.mem_or_eq_of_mem_set hx with hx | rfl
        · exact h x hx
        · omega
  exact run bs 0 _ _ (by omega) fun x hx => by
    have := List.eq_of_mem_replicate hx
    omega
theorem smL_lab {n m : Int} {bs : List (List Int)} (h : IsDg n m bs) : SmL 1 25000 (dL (labL bs (n + m).toNat)) := by
  have hs := siz_iff.mp h.sz
  have f := h.few.1
  refine (smL_dL (B := 12) (fun x hx => ?_) (by rw [labL_len]; omega)).more (by decide)
  have := labL_mem x hx
  have : (12 : Nat) < 2 ^ 200 := by decide
  omega
theorem smL_dg {n m : Int} {bs : List (List Int)} (h : IsDg n m bs) : SmL 3 1000000 (dDG n m bs) := by
  have hs := siz_iff.mp h.sz
  have f := h.few
  have big : (12 : Nat) < 2 ^ 200 := by decide
  have e1 := smL_tuple (n := 1) (k := 25002) (ds := bs.map dT) fun D hD => by
    obtain ⟨b, hb, rfl⟩ := List.mem_map.mp hD
    refine (dT_small (z := b) fun k => ?_).more (by have := f.2 b hb; omega)
    rcases Nat.lt_or_ge k b.length with c | c
    · have := dg_pt h hb (co_mem c)
      omega
    · rw [co_ge c]
      decide
  rw [List.length_map] at e1
  have e1 : SmL 2 310000 (dTT bs) := e1.more (by have := f.1; omega)
  have e2 := smL_tuple (n := 2) (k := 310000) (ds := [.int n, .int m, dTT bs]) fun D hD => by
    have up : ∀ {x : Int}, x.natAbs < 2 ^ 200 → SmL 2 310000 (.int x) := fun hx => by
      obtain ⟨h1, h2, h3, h4⟩ := smL_int hx
      exact ⟨h1, Nat.le_trans h2 (by decide), h3, Nat.le_trans h4 (by decide)⟩
    rcases List.mem_cons.mp hD with rfl | hD
    · exact up (by omega)
    · rcases List.mem_cons.mp hD with rfl | hD
      · exact up (by omega)
      · rw [List.mem_singleton.mp hD]
        exact e1
  exact e2.more (by show (310000 + 2) * 3 + 3 ≤ 1000000; decide)
theorem few_pow {x : Int} (h : 0 ≤ x ∧ x ≤ 1000) : x.natAbs < 2 ^ 64 := by
  have : (1000 : Nat) < 2 ^ 64 := by decide
  omega

/-! ### counted, from the sizes of blocks -/
open PySem.W (mcComb)
def vz (z : Str) : Nat := if z = "pairs" then 0 else if z = "lonepairs" then 1 else if z = "even" then 2 else 3
def sv (v k : Nat) : Bool := if v = 0 then decide (k = 2) else if v = 1 then decide (k ≤ 2) else if v = 2 then decide (k % 2 = 0) else true
theorem sizeOk_v (z : Str) (k : Nat) : sizeOk z k = sv (vz z) k := by
  unfold sizeOk vz sv
  repeat' split
  all_goals first | rfl | omega
theorem vz_lt (z : Str) : vz z < 4 := by
  unfold vz
  repeat' split
  all_goals omega
def lastT (z : Nat) (cs : List Int) (k j : Nat) : List Int := if sv z (j + 1) = true then [mcComb (k : Int) (j : Int) * co cs (k - j)] else []
def lastL (z : Nat) (cs : List Int) (k : Nat) : Nat → List Int
  | 0 => []
  | j + 1 => lastL z cs k j ++ lastT z cs k j
def sumZ (l : List Int) : Int := l.sum
def cbl (z : Nat) : Nat → List Int
  | 0 => [1]
  | k + 1 => cbl z k ++ [sumZ (lastL z (cbl z k) k (k + 1))]
theorem cbl_len (z : Nat) : ∀ k, (cbl z k).length = k + 1
  | 0 => rfl
  | k + 1 => by
    show (cbl z k ++ [_]).length = _
    rw [List.length_append, cbl_len z k]
    rfl
theorem lastL_len (z : Nat) (cs : List Int) (k : Nat) : ∀ j, (lastL z cs k j).length ≤ j
  | 0 => Nat.le_refl _
  | j + 1 => by
    show (lastL z cs k j ++ lastT z cs k j).length ≤ _
    have := lastL_len z cs k j
    have : (lastT z cs k j).length ≤ 1 := by
      unfold lastT
      split
      · exact Nat.le_refl _
      · exact Nat.zero_le _
    rw [List.length_append]
    omega
theorem cbl_small : ∀ v, v < 4 → ∀ i, i ≤ 12 → ∀ x ∈ cbl v i, 0 ≤ x ∧ x ≤ 10000000 := by decide +kernel
theorem comb_small : ∀ i : Nat, i ≤ 12 → ∀ j : Nat, j ≤ 12 → 0 ≤ mcComb (i : Int) (j : Int) ∧ mcComb (i : Int) (j : Int) ≤ 1000 := by decide +kernel
section
variable {P : Program} {w : World} {K : PySem.W.Frag} {mg : Str → Option Value} {base : Heap}
def spLast : Sp := fun vs H Q _ => ∃ (z : Str) (N : Nat), vs = [.str z, .int N] ∧ N ≤ 12 ∧ ∀ H', Same H H' → Q (.int (co (cbl (vz z) N) N)) H'
theorem ok_counted_by_last_ {f a_is_block_size_ : Addr} {fd fd_is_block_size_ : FuncData} (F : Fun K "_counted_by_last" "_counted_by_last" s_counted_by_last_ f fd) (z_range : mg "range" = none) (z_sum : mg "sum" = none) (m_comb : mg "comb" = some (.builtin "math.comb"))
    (G_is_block_size_ : FnOk P w K mg base CX0 1 a_is_block_size_ fd_is_block_size_ ["family", "size"] spIsBlockSize) (g_is_block_size_ : mg "_is_block_size" = some (.ref a_is_block_size_)) (k_is_block_size_ : PySem.W.keepIn K (.ref a_is_block_size_) = true) (b_is_block_size_ : Binds K fd_is_block_size_ ["family", "size"] []) :
    FnOk P w K mg base CX0 2 f fd ["family", "size"] spLast := by
  refine F.ok sc_counted_by_last_ (fun vs H Q E h => ?_) (fun cdv A outer s H vs Q E hr h => ?_)
  · obtain ⟨z, N, rfl, _⟩ := h
    rfl
  · obtain ⟨z, N, rfl, hN, q⟩ := h
    refine ⟨_, (pss_cons (ps_set (i := 2) sc_counted_by_last_.nd rfl (.inr rfl) (pe_lst (pa_cons pe_int pa_nil)))
  (pss_cons (ps_for PassesOwn.never rfl (pi_range2 rfl z_range (pa_cons pe_int (pa_cons (pe_op op_add (pv 1) pe_int) pa_nil))) (pg_name (i := 3) sc_counted_by_last_.nd rfl (.inr rfl)) (pss_one (ps_expr (pe_bm PySem.F.plainAttrs_list PySem.F.slot_list_append PySem.F.type_list_append mt_append (pv 2) (pa_cons (pe_callB (cr_sum rfl) (by rfl) z_sum boot_sum (pa_cons (pe_lc (own := [("j", 4)]) rfl sc_counted_by_last_.nd (pi_range2 rfl z_range (pa_cons pe_int (pa_cons (pe_op op_add (pv 3) pe_int) pa_nil))) (blkOk_by (N := ["family", "size", "counts", "total", "j"]) (sc := defScope s_counted_by_last_) (by first | decide +kernel | rfl)) (fun _ _ _ _ _ => (pg_name (i := 4) sc_counted_by_last_.nd rfl (.inl rfl))) (fun _ _ _ _ _ => pts_one (pt_val (pe_call G_is_block_size_ (hr.mono (by decide)) rfl g_is_block_size_ k_is_block_size_ b_is_block_size_ .nil pass0 (pa_cons (pv 0) (pa_cons (pv 4) pa_nil))))) (fun _ _ _ _ _ => (pe_op op_mul (pe_callBfun cr_comb rfl m_comb (pa_cons (pe_op op_sub (pv 3) pe_int) (pa_cons (pe_op op_sub (pv 4) pe_int) pa_nil))) (pe_ix (ix_listK (K := K) rfl) (pv 2) (pe_op op_sub (pv 3) (pv 4)) (fun _ _ => rfl))))) pa_nil)) pa_nil)))))
  (pss_one (ps_ret (pe_ix ix_list (pv 2) (pv 1) (fun _ _ => rfl)))))), ?_⟩
    have szl : 20000 ≤ sizeLine := by decide
    refine ⟨(by show 1 ≤ sizeLine; omega), fun B nB => ?_⟩
    have s1 : Same H (upd H B (.lst [.int 1])) := same_upd nB
    have hB1 : upd H B (.lst [.int 1]) B = some (.lst ((cbl (vz z) 0).map V.int)) := upd_same
    have sb1 : SameBut B H (upd H B (.lst [.int 1])) := SameBut.upd
    clear s1
    revert hB1 sb1
    generalize upd H B (.lst [.int 1]) = H1
    intro hB1 sb1
    refine ⟨_, rfl, _, _, rfl, rfl, 1, _, rfl, by omega, ?_⟩
    rw [show ((N : Int) + 1 - 1).toNat = N by omega]
    refine for_range (lo := 1) (n := N) (fun i σ H' => ∃ (v3 : Option V), σ = [some (.str z), some (.int (N : Int)), some (.ref B), v3, none] ∧ SameBut B H H' ∧ H' B = some (.lst ((cbl (vz z) i).map V.int)))
      ⟨none, rfl, sb1, hB1⟩ (fun i σ H3 hi hP => ?_) (fun σ H3 hP => ?_)
    · obtain ⟨v3, rfl, sb, hB⟩ := hP
      have lc := cbl_len (vz z) i
      refine ⟨_, rfl, .inl ⟨rfl, _, .inl (.inl hB)⟩, _, rfl, _, _, rfl, rfl, 1, _, rfl, by omega, fun D nD => ?_⟩
      rw [show ((1 : Int) + (i : Int) + 1 - 1).toNat = i + 1 by omega]
      have hBD : B ≠ D := ne_of_none hB nD
      refine lc_range (lo := 1) (n := i + 1) (fun j H' => SameBut D H3 H' ∧ H' D = some (.lst ((lastL (vz z) (cbl (vz z) i) i j).map V.int))) ⟨SameBut.upd, upd_same⟩ (fun j H' hj hP => ?_) (fun H4 hP => ?_)
      · obtain ⟨sbD, hD⟩ := hP
        have hB' := sbD _ _ hBD hB
        refine ⟨rfl, ?_⟩
        refine ⟨_, rfl, _, rfl, z, j + 1, by rw [show (1 : Int) + (j : Int) = ((j + 1 : Nat) : Int) by omega]; rfl, _, rfl, ?_⟩
        rw [sizeOk_v]
        show if _ then _ else _
        by_cases c : sv (vz z) (j + 1) = true
        · have el : lastL (vz z) (cbl (vz z) i) i (j + 1) = lastL (vz z) (cbl (vz z) i) i j ++ [mcComb (i : Int) (j : Int) * co (cbl (vz z) i) (i - j)] := by
            show _ ++ lastT _ _ _ _ = _
            unfold lastT
            rw [if_pos c]
          have e1 : (1 : Int) + (i : Int) - 1 = (i : Int) := by omega
          have e2 : (1 : Int) + (j : Int) - 1 = (j : Int) := by omega
          have e3 : (1 : Int) + (i : Int) - (1 + (j : Int)) = ((i - j : Nat) : Int) := by omega
          obtain ⟨b1, b2⟩ := comb_small i (by omega) j (by omega)
          have ll := lastL_len (vz z) (cbl (vz z) i) i j
          refine if_pos_of c ⟨_, rfl, _, _, rfl, rfl, _, rfl, _, _, rfl, rfl, (i : Int), (j : Int), by show [V.int ((1 : Int) + (i : Int) - 1), V.int ((1 : Int) + (j : Int) - 1)] = _; rw [e1, e2], by omega, by omega, by omega, _, rfl, _, rfl, _, rfl, _, _, rfl, rfl, B, _, _, _, rfl, rfl, .inl (.inl hB'), by rw [e3]; exact at_co (by omega), _, _, rfl, rfl, .inl ⟨by omega, by omega⟩, _, hD, by rw [List.length_map]; omega, sbD.trans SameBut.upd, ?_⟩
          rw [upd_same, el, List.map_append]
          rfl
        · have el : lastL (vz z) (cbl (vz z) i) i (j + 1) = lastL (vz z) (cbl (vz z) i) i j := by
            show _ ++ lastT _ _ _ _ = _
            unfold lastT
            rw [if_neg c, List.append_nil]
          refine if_neg_of c ⟨sbD, ?_⟩
          rw [el]
          exact hD
      · obtain ⟨sbD, hD⟩ := hP
        have hB' := sbD _ _ hBD hB
        have sH : Same H3 H4 := fun b o e => sbD b o (ne_of_none e nD) e
        refine ⟨D, _, rfl, .inl (.inl hD), B, _, _, rfl, rfl, hB', by rw [List.length_map]; omega, ?_⟩
        refine ⟨_, rfl, (sb.trans (fun b o nb e => sH b o e)).trans SameBut.upd, ?_⟩
        rw [upd_same]
        show _ = some (HO.lst ((cbl (vz z) i ++ [sumZ (lastL (vz z) (cbl (vz z) i) i (i + 1))]).map V.int))
        rw [List.map_append]
        rfl
    · obtain ⟨v3, rfl, sb, hB⟩ := hP
      have lc := cbl_len (vz z) N
      exact ⟨_, rfl, _, rfl, B, _, _, _, rfl, rfl, .inl (.inl hB), at_co (by omega), q _ (fun b o e => sb b o (ne_of_none e nB) e)⟩
end

open PySem.W (mcComb)
/-! ### counted -/
def fac (k : Nat) : Int := ((Builtin.Math.factorialNat k : Nat) : Int)
def looseT (n m t : Nat) : Int := mcComb (n : Int) (t : Int) * mcComb (m : Int) (t : Int) * fac t
def looseL (n m : Nat) : Nat → List Int
  | 0 => []
  | t + 1 => looseL n m t ++ [looseT n m t]
def cntV (z : Str) (n m : Nat) : Int := if z = "threads" then (if n = m then fac n else 0) else if z = "loose" then sumZ (looseL n m (min n m + 1)) else co (cbl (vz z) (n + m)) (n + m)
theorem looseL_len (n m : Nat) : ∀ t, (looseL n m t).length = t
  | 0 => rfl
  | t + 1 => by
    show (looseL n m t ++ [_]).length = _
    rw [List.length_append, looseL_len n m t]
    rfl
theorem fac_small : ∀ k : Nat, k ≤ 12 → 0 ≤ fac k ∧ fac k ≤ 1000000000 := by decide +kernel
section
variable {P : Program} {w : World} {K : PySem.W.Frag} {mg : Str → Option Value} {base : Heap}
def spCounted (CF CB : Addr) : Sp := fun vs H Q E => ∃ (z : Str) (n m : Int), vs = [.str z, .int n, .int m] ∧ (z ∉ fams → E (.ref CF) none H) ∧ (z ∈ fams → siz n m = false → E (.ref CB) none H) ∧
  (z ∈ fams → siz n m = true → ∀ H', Same H H' → Q (.int (cntV z n.toNat m.toNat)) H')
theorem ok_counted {f CF CB a_check_family a_check_size_ a_counted_by_last_ : Addr} {fd fd_check_family fd_check_size_ fd_counted_by_last_ : FuncData} (F : Fun K "counted" "counted" s_counted f fd) (z_range : mg "range" = none) (z_sum : mg "sum" = none) (z_min : mg "min" = none) (m_comb : mg "comb" = some (.builtin "math.comb")) (m_factorial : mg "factorial" = some (.builtin "math.factorial"))
    (G_check_family : FnOk P w K mg base (L2N.CX P w) 1 a_check_family fd_check_family ["family"] (spCheckFamily CF)) (g_check_family : mg "check_family" = some (.ref a_check_family)) (k_check_family : PySem.W.keepIn K (.ref a_check_family) = true) (b_check_family : Binds K fd_check_family ["family"] [])
    (G_check_size_ : FnOk P w K mg base (L2N.CX P w) 2 a_check_size_ fd_check_size_ ["n", "m"] (spCheckSize CB)) (g_check_size_ : mg "_check_size" = some (.ref a_check_size_)) (k_check_size_ : PySem.W.keepIn K (.ref a_check_size_) = true) (b_check_size_ : Binds K fd_check_size_ ["n", "m"] [])
    (G_counted_by_last_ : FnOk P w K mg base CX0 2 a_counted_by_last_ fd_counted_by_last_ ["family", "size"] spLast) (g_counted_by_last_ : mg "_counted_by_last" = some (.ref a_counted_by_last_)) (k_counted_by_last_ : PySem.W.keepIn K (.ref a_counted_by_last_) = true) (b_counted_by_last_ : Binds K fd_counted_by_last_ ["family", "size"] []) :
    FnOk P w K mg base (L2N.CX P w) 3 f fd ["family", "n", "m"] (spCounted CF CB) := by
  refine F.okXN sc_counted (fun vs H Q E h => ?_) (fun cdv A outer s H vs Q E hr h => ?_)
  · obtain ⟨z, n, m, rfl, _⟩ := h
    rfl
  · obtain ⟨z, n, m, rfl, q1, q2, q3⟩ := h
    refine ⟨_, (pss_cons (ps_expr (pe_call G_check_family (hr.mono (by decide)) rfl g_check_family k_check_family b_check_family .nil (L2N.passes_call (L2N.takes_of rfl rfl rfl rfl) (fun _ _ _ _ h => h)) (pa_cons (pv 0) pa_nil)))
  (pss_cons (ps_expr (pe_call G_check_size_ (hr.mono (by decide)) rfl g_check_size_ k_check_size_ b_check_size_ .nil (L2N.passes_call (L2N.takes_of rfl rfl rfl rfl) (fun _ _ _ _ h => h)) (pa_cons (pv 1) (pa_cons (pv 2) pa_nil))))
  (pss_cons (ps_if (pt_cmpR op_eq (pv 0) pe_str (nomark _)) (pss_one (ps_ret (pe_ifExp (pt_cmpR op_eq (pv 1) (pv 2) (nomark _)) (pe_callBfun cr_fac rfl m_factorial (pa_cons (pv 1) pa_nil)) pe_int))) pss_nil)
  (pss_cons (ps_if (pt_cmpR op_eq (pv 0) pe_str (nomark _)) (pss_cons (ps_set (i := 3) sc_counted.nd rfl (.inl rfl) (pe_callB (call_min2 rfl) (by rfl) z_min boot_min (pa_cons (pv 1) (pa_cons (pv 2) pa_nil))))
  (pss_one (ps_ret (pe_callB (cr_sum rfl) (by rfl) z_sum boot_sum (pa_cons (pe_lc (own := [("t", 4)]) rfl sc_counted.nd (pi_range1 rfl z_range (pa_cons (pe_op op_add (pv 3) pe_int) pa_nil)) (blkOk_by (N := ["family", "n", "m", "most", "t"]) (sc := defScope s_counted) (by first | decide +kernel | rfl)) (fun _ _ _ _ _ => (pg_name (i := 4) sc_counted.nd rfl (.inl rfl))) (fun _ _ _ _ _ => pts_nil) (fun _ _ _ _ _ => (pe_op op_mul (pe_op op_mul (pe_callBfun cr_comb rfl m_comb (pa_cons (pv 1) (pa_cons (pv 4) pa_nil))) (pe_callBfun cr_comb rfl m_comb (pa_cons (pv 2) (pa_cons (pv 4) pa_nil)))) (pe_callBfun cr_fac rfl m_factorial (pa_cons (pv 4) pa_nil))))) pa_nil))))) pss_nil)
  (pss_one (ps_ret (pe_call G_counted_by_last_ (hr.mono (by decide)) rfl g_counted_by_last_ k_counted_by_last_ b_counted_by_last_ .nil pass0 (pa_cons (pv 0) (pa_cons (pe_op op_add (pv 1) (pv 2)) pa_nil))))))))), ?_⟩
    have szl : 20000 ≤ sizeLine := by decide
    refine ⟨_, rfl, z, rfl, fun mz => ?_, q1⟩
    refine ⟨_, rfl, _, rfl, n, m, rfl, fun hs => ?_, q2 mz⟩
    have q := q3 mz hs
    have zz := siz_iff.mp hs
    obtain ⟨n, rfl⟩ : ∃ u : Nat, n = (u : Int) := ⟨n.toNat, by omega⟩
    obtain ⟨m, rfl⟩ : ∃ u : Nat, m = (u : Int) := ⟨m.toNat, by omega⟩
    rw [show ((n : Nat) : Int).toNat = n from rfl, show ((m : Nat) : Int).toNat = m from rfl] at q
    unfold cntV at q
    refine ⟨_, rfl, rfl, _, rfl, ?_⟩
    by_cases c1 : z = "threads"
    · rw [if_pos c1] at q
      refine if_pos_of (decide_eq_true (congrArg V.str c1)) ?_
      refine ⟨_, rfl, _, rfl, rfl, _, rfl, ?_⟩
      by_cases c2 : n = m
      · rw [if_pos c2] at q
        exact if_pos_of (decide_eq_true (by rw [c2])) ⟨_, rfl, (n : Int), rfl, by omega, by omega, q H (Same.refl _)⟩
      · rw [if_neg c2] at q
        exact if_neg_of (fun h => c2 (by have := V.int.inj (of_decide_eq_true h); omega)) (q H (Same.refl _))
    rw [if_neg c1] at q
    refine if_neg_of (fun h => c1 (V.str.inj (of_decide_eq_true h))) ?_
    refine ⟨_, rfl, rfl, _, rfl, ?_⟩
    by_cases c2 : z = "loose"
    · rw [if_pos c2] at q
      refine if_pos_of (decide_eq_true (congrArg V.str c2)) ?_
      have em : (if ((m : Nat) : Int) < ((n : Nat) : Int) then ((m : Nat) : Int) else ((n : Nat) : Int)) = ((min n m : Nat) : Int) := by
        split <;> omega
      refine ⟨_, rfl, _, rfl, _, _, rfl, ?_⟩
      rw [em]
      refine ⟨_, rfl, _, _, rfl, rfl, _, rfl, by omega, by omega, fun D nD => ?_⟩
      rw [show (((min n m : Nat) : Int) + 1).toNat = min n m + 1 by omega]
      refine lc_range (lo := 0) (n := min n m + 1) (fun t H' => SameBut D H H' ∧ H' D = some (.lst ((looseL n m t).map V.int))) ⟨SameBut.upd, upd_same⟩ (fun t H' ht hP => ?_) (fun H4 hP => ?_)
      · obtain ⟨sbD, hD⟩ := hP
        have e0 : (0 : Int) + (t : Int) = (t : Int) := Int.zero_add _
        have c1 := comb_small n (by omega) t (by omega)
        have c2 := comb_small m (by omega) t (by omega)
        have c3 := fac_small t (by omega)
        have ll := looseL_len n m t
        refine ⟨rfl, ?_⟩
        rw [e0]
        refine ⟨_, rfl, _, rfl, (n : Int), (t : Int), rfl, by omega, by omega, by omega, _, rfl, _, rfl, (m : Int), (t : Int), rfl, by omega, by omega, by omega, _, _, rfl, rfl, .inl ⟨by omega, by omega⟩, _, rfl, (t : Int), rfl, by omega, by omega, _, _, rfl, rfl, .inr ⟨by show _ < fac t; omega, by show fac t < _; omega⟩, _, hD, by rw [List.length_map]; omega, sbD.trans SameBut.upd, ?_⟩
        rw [upd_same]
        show _ = some (HO.lst ((looseL n m t ++ [looseT n m t]).map V.int))
        rw [List.map_append]
        rfl
      · obtain ⟨sbD, hD⟩ := hP
        exact ⟨D, _, rfl, .inl (.inl hD), q _ (fun b o e => sbD b o (ne_of_none e nD) e)⟩
    rw [if_neg c2] at q
    refine if_neg_of (fun h => c2 (V.str.inj (of_decide_eq_true h))) ?_
    exact ⟨_, rfl, _, rfl, _, rfl, _, _, rfl, rfl, z, n + m, rfl, by omega, q⟩
end

/-! ### _may_follow -/
def mayF (z : Str) (n : Int) (row : List Int) (mark : Int) : Bool :=
  if row.count mark = 0 then true else if z = "even" ∨ z = "parts" then true else if 1 < row.count mark then false else if z = "pairs" ∨ z = "lonepairs" then true else decide ((row.idxOf mark : Int) < n) && decide (n ≤ (row.length : Int))
section
variable {P : Program} {w : World} {K : PySem.W.Frag} {mg : Str → Option Value} {base : Heap}
def spMay (K : PySem.W.Frag) : Sp := fun vs H Q _ => ∃ (z : Str) (n : Int) (p : Addr) (row : List Int) (mark : Int), vs = [.str z, .int n, .ref p, .int mark] ∧ SqL K H p (row.map V.int) ∧ ∀ H', Same H H' → Q (.bl (mayF z n row mark)) H'
theorem ok_may_follow_ {f : Addr} {fd : FuncData} (F : Fun K "_may_follow" "_may_follow" s_may_follow_ f fd) (z_len : mg "len" = none) : FnOk P w K mg base CX0 1 f fd ["family", "n", "row", "mark"] (spMay K) := by
  refine F.ok sc_may_follow_ (fun vs H Q E h => ?_) (fun cdv A outer s H vs Q E hr h => ?_)
  · obtain ⟨z, n, p, row, mark, rfl, _⟩ := h
    rfl
  · obtain ⟨z, n, p, row, mark, rfl, hp, q⟩ := h
    refine ⟨_, (pss_cons (ps_set (i := 4) sc_may_follow_.nd rfl (.inl rfl) (pe_bm PySem.F.plainAttrs_list PySem.F.slot_list_count PySem.F.type_list_count mt_lcount (pv 2) (pa_cons (pv 3) pa_nil)))
  (pss_cons (ps_if (L2.PW.pt (pw_or (pt_cmpR op_eq (pv 4) pe_int (nomark _)) (pw_or1 (pt_cmpR op_in_seq (pv 0) (pe_tup (pa_cons pe_str (pa_cons pe_str pa_nil))) (by with_unfolding_all rfl))))) (pss_one (ps_ret pe_bl)) pss_nil)
  (pss_cons (ps_if (pt_cmpR op_gt (pv 4) pe_int (nomark _)) (pss_one (ps_ret pe_bl)) pss_nil)
  (pss_one (ps_ret (pe_or (pe_cmpR op_in_seq (pv 0) (pe_tup (pa_cons pe_str (pa_cons pe_str pa_nil))) (by with_unfolding_all rfl)) (pe_one (pe_chain op_lt op_le (pe_bm PySem.F.plainAttrs_list PySem.F.slot_list_index PySem.F.type_list_index mt_index (pv 2) (pa_cons (pv 3) pa_nil)) (pv 1) (pe_callB call_len_seq (by rfl) z_len boot_len (pa_cons (pv 2) pa_nil)))))))))), ?_⟩
    have szl : 20000 ≤ sizeLine := by decide
    unfold mayF at q
    refine ⟨_, rfl, .inl ⟨rfl, _, hp⟩, _, rfl, p, row, mark, rfl, rfl, hp, ?_⟩
    refine ⟨_, rfl, rfl, _, rfl, ?_⟩
    by_cases c0 : row.count mark = 0
    · rw [if_pos c0] at q
      exact if_pos_of (decide_eq_true (by rw [c0]; rfl)) (iteT (q H (Same.refl _)))
    rw [if_neg c0] at q
    refine if_neg_of (fun h => c0 (by have := V.int.inj (of_decide_eq_true h); omega)) ?_
    refine ⟨_, rfl, (by show 2 ≤ sizeLine; omega), fun t nt => ?_⟩
    have s1 := same_upd (o := .tup [.str "even", .str "parts"]) nt
    refine ⟨t, _, rfl, .inr (.inl (.inl upd_same)), rfl, rfl, _, rfl, ?_⟩
    have iv : ∀ x y : Str, inV (.str z) [.str x, .str y] = decide (z = x ∨ z = y) := fun x y => by
      rw [show ([.str x, .str y] : List V) = [x, y].map V.str from rfl, inV_str]
      exact decide_eq_decide.mpr (by simp)
    by_cases c1 : z = "even" ∨ z = "parts"
    · rw [if_pos c1] at q
      refine if_pos_of (by show inV (.str z) [.str "even", .str "parts"] = true; rw [iv]; exact decide_eq_true c1) ?_
      exact q _ s1
    rw [if_neg c1] at q
    refine if_neg_of (by show ¬ inV (.str z) [.str "even", .str "parts"] = true; rw [iv]; exact fun h => c1 (of_decide_eq_true h)) ?_
    refine ⟨_, rfl, _, _, rfl, rfl, _, rfl, ?_⟩
    by_cases c2 : 1 < row.count mark
    · rw [if_pos c2] at q
      exact if_pos_of (decide_eq_true (by omega)) (q _ s1)
    rw [if_neg c2] at q
    refine if_neg_of (fun h => c2 (by have := of_decide_eq_true h; omega)) ?_
    refine ⟨_, rfl, (by show 2 ≤ sizeLine; omega), fun t2 nt2 => ?_⟩
    have s2 := Same.trans s1 (same_upd (o := .tup [.str "pairs", .str "lonepairs"]) nt2)
    refine ⟨t2, _, rfl, .inr (.inl (.inl upd_same)), rfl, rfl, _, rfl, ?_⟩
    by_cases c3 : z = "pairs" ∨ z = "lonepairs"
    · rw [if_pos c3] at q
      refine if_pos_of (by show inV (.str z) [.str "pairs", .str "lonepairs"] = true; rw [iv]; exact decide_eq_true c3) ?_
      exact q _ s2
    rw [if_neg c3] at q
    refine if_neg_of (by show ¬ inV (.str z) [.str "pairs", .str "lonepairs"] = true; rw [iv]; exact fun h => c3 (of_decide_eq_true h)) ?_
    have hp2 := sqL_same s2 hp
    have hm : mark ∈ row := List.count_pos_iff.mp (by omega)
    have hj := List.idxOf_lt_length_of_mem hm
    have ej : row[row.idxOf mark]? = some mark := by rw [List.getElem?_eq_getElem hj, List.getElem_idxOf hj]
    have eqi : ∀ a b : Int, eqV (.int a) (.int b) = decide (a = b) := fun a b => by
      show (a == b) = _
      by_cases h : a = b
      · rw [decide_eq_true h, h]
        exact beq_self_eq_true b
      · rw [decide_eq_false h]
        exact beq_eq_false_iff_ne.mpr h
    refine ⟨_, rfl, .inl ⟨rfl, _, hp2⟩, _, rfl, p, _, .int mark, row.idxOf mark, .int mark, rfl, rfl, hp2, rfl, List.all_eq_true.mpr (fun v hv => by obtain ⟨w, _, rfl⟩ := List.mem_map.mp hv; rfl), by rw [List.getElem?_map, ej]; rfl, by rw [eqi]; exact decide_eq_true rfl, fun u z' hu hz => ?_, ?_⟩
    · obtain ⟨y, ey, rfl⟩ := map_int_get hz
      rw [eqi]
      refine decide_eq_false fun e => ?_
      have hul := (List.getElem?_eq_some_iff.mp ey)
      obtain ⟨h1, h2⟩ := hul
      have no := List.not_of_lt_findIdx (p := (· == mark)) (xs := row) hu
      have no : (row[u] == mark) = false := no
      rw [h2, e] at no
      exact absurd (beq_self_eq_true mark) (by rw [no]; exact Bool.false_ne_true)
    refine ⟨_, rfl, _, _, rfl, rfl, _, rfl, ?_⟩
    by_cases c4 : ((row.idxOf mark : Nat) : Int) < n
    · rw [decide_eq_true c4, Bool.true_and] at q
      refine if_pos_of (decide_eq_true c4) ⟨_, rfl, p, _, rfl, .inl hp2, _, _, rfl, rfl, ?_⟩
      rw [List.length_map]
      exact q _ s2
    · rw [decide_eq_false c4, Bool.false_and] at q
      exact if_neg_of (fun h => c4 (of_decide_eq_true h)) (q _ s2)
end

/-! ### _label_rows -/
def topL (l : List Int) : Int := l.foldr (fun x y => if x + 1 > y then x + 1 else y) 0
theorem topL_ge : ∀ {l : List Int} {x : Int}, x ∈ l → x + 1 ≤ topL l
  | a :: l, x, h => by
    unfold topL
    rw [List.foldr_cons]
    show _ ≤ if a + 1 > topL l then a + 1 else topL l
    rcases List.mem_cons.mp h with rfl | h
    · split <;> omega
    · have := topL_ge h
      split <;> omega
theorem topL_of : ∀ {l : List Int} {m : Int}, m ∈ l → (∀ y ∈ l, y ≤ m) → (∀ y ∈ l, 0 ≤ y) → topL l = m + 1
  | [a], m, h, _, h0 => by
    rcases List.mem_cons.mp h with rfl | h
    · have := h0 m h
      show (if m + 1 > 0 then m + 1 else 0) = m + 1
      rw [if_pos (by omega)]
    · exact nomatch h
  | a :: b :: l, m, h, hm, h0 => by
    have ha := hm a (.head _)
    have h0a := h0 a (.head _)
    show (if a + 1 > topL (b :: l) then a + 1 else topL (b :: l)) = m + 1
    by_cases c : m ∈ b :: l
    · rw [topL_of c (fun y hy => hm y (.tail _ hy)) (fun y hy => h0 y (.tail _ hy)), if_neg (by omega)]
    · rcases List.mem_cons.mp h with rfl | h
      · have lt : topL (b :: l) ≤ m := by
          have : ∀ {l : List Int}, (∀ y ∈ l, y < m) → 0 ≤ m → topL l ≤ m := by
            intro l
            induction l with
            | nil => intro _ h; exact h
            | cons x xs ih =>
              intro hx hm0
              have := ih (fun y hy => hx y (.tail _ hy)) hm0
              have := hx x (.head _)
              show (if x + 1 > topL xs then x + 1 else topL xs) ≤ m
              split <;> omega
          refine this (fun y hy => ?_) h0a
          have h1 := hm y (.tail _ hy)
          have : y ≠ m := fun e => c (e ▸ hy)
          omega
        rw [if_pos (by omega)]
      · exact absurd h c
theorem topL_pos : ∀ (l : List Int), 0 ≤ topL l
  | [] => Int.le_refl _
  | a :: l => by
    have := topL_pos l
    show 0 ≤ if a + 1 > topL l then a + 1 else topL l
    split <;> omega
theorem topL_snoc (l : List Int) (a : Int) : topL (l ++ [a]) = if a + 1 > topL l then a + 1 else topL l := by
  induction l with
  | nil => rfl
  | cons b l ih =>
    show (if b + 1 > topL (l ++ [a]) then b + 1 else topL (l ++ [a])) = if a + 1 > (if b + 1 > topL l then b + 1 else topL l) then a + 1 else (if b + 1 > topL l then b + 1 else topL l)
    rw [ih]
    repeat' split
    all_goals omega
def nextR (z : Str) (n : Int) (row : List Int) : Nat → List (List Int)
  | 0 => []
  | j + 1 => nextR z n row j ++ if mayF z n row (j : Int) = true then [row ++ [(j : Int)]] else []
def rowsF (z : Str) (n : Int) : Nat → List (List Int)
  | 0 => [[]]
  | k + 1 => ((rowsF z n k).map fun row => nextR z n row ((topL row).toNat + 1)).flatten
theorem nextR_in {z : Str} {n : Int} {row : List Int} : ∀ {j : Nat} {r : List Int}, r ∈ nextR z n row j → ∃ u : Nat, u < j ∧ r = row ++ [(u : Int)]
  | j + 1, r, h => by
    have h : r ∈ nextR z n row j ++ if mayF z n row (j : Int) = true then [row ++ [(j : Int)]] else [] := h
    rcases List.mem_append.mp h with h | h
    · obtain ⟨u, hu, e⟩ := nextR_in h
      exact ⟨u, Nat.lt_succ_of_lt hu, e⟩
    · split at h
      · exact ⟨j, Nat.lt_succ_self j, List.mem_singleton.mp h⟩
      · exact nomatch h
theorem nextR_len (z : Str) (n : Int) (row : List Int) : ∀ j, (nextR z n row j).length ≤ j
  | 0 => Nat.le_refl _
  | j + 1 => by
    have := nextR_len z n row j
    show (nextR z n row j ++ if mayF z n row (j : Int) = true then [row ++ [(j : Int)]] else []).length ≤ _
    rw [List.length_append]
    split
    · show _ + 1 ≤ _
      omega
    · show _ + 0 ≤ _
      omega
theorem rowsF_ok {z : Str} {n : Int} : ∀ {k : Nat} {row : List Int}, row ∈ rowsF z n k → row.length = k ∧ (∀ y ∈ row, 0 ≤ y) ∧ topL row ≤ (k : Int)
  | 0, row, h => by
    rw [List.mem_singleton.mp h]
    exact ⟨rfl, (fun y hy => nomatch hy), Int.le_refl _⟩
  | k + 1, row, h => by
    obtain ⟨l, hl, hr⟩ := List.mem_flatten.mp h
    obtain ⟨r0, h0, rfl⟩ := List.mem_map.mp hl
    obtain ⟨a1, a2, a3⟩ := rowsF_ok h0
    obtain ⟨u, hu, rfl⟩ := nextR_in hr
    have t0 := topL_pos r0
    refine ⟨by rw [List.length_append, a1]; rfl, fun y hy => ?_, ?_⟩
    · rcases List.mem_append.mp hy with hy | hy
      · exact a2 y hy
      · rw [List.mem_singleton.mp hy]
        omega
    · rw [topL_snoc]
      split <;> omega
def accF (z : Str) (n : Int) (l : List (List Int)) : List (List Int) := (l.map fun row => nextR z n row ((topL row).toNat + 1)).flatten
theorem accF_snoc (z : Str) (n : Int) (l : List (List Int)) (row : List Int) : accF z n (l ++ [row]) = accF z n l ++ nextR z n row ((topL row).toNat + 1) := by
  unfold accF
  rw [List.map_append, List.flatten_append]
  show _ ++ (_ ++ []) = _
  rw [List.append_nil]
theorem accF_take (z : Str) (n : Int) (l : List (List Int)) (i : Nat) : (accF z n (l.take i)).length ≤ (accF z n l).length := by
  conv => rhs; rw [← List.take_append_drop i l]
  unfold accF
  rw [List.map_append, List.flatten_append, List.length_append]
  omega
def RowP (D : Addr) (H : Hp) (p : V) (row : List Int) : Prop := ∃ a, p = .ref a ∧ a ≠ D ∧ H a = some (.lst (row.map V.int))
theorem rowP_but {D D' : Addr} {H H' : Hp} {x : V} {row : List Int} (sb : SameBut D' H H') (nd : H D' = none) (h : RowP D H x row) : RowP D' H' x row := by
  obtain ⟨a, rfl, _, ha⟩ := h
  have ne : a ≠ D' := ne_of_none ha nd
  exact ⟨a, rfl, ne, sb _ _ ne ha⟩
theorem rowP_keep {D : Addr} {H H' : Hp} {x : V} {row : List Int} (sb : SameBut D H H') (h : RowP D H x row) : RowP D H' x row := by
  obtain ⟨a, rfl, ne, ha⟩ := h
  exact ⟨a, rfl, ne, sb _ _ ne ha⟩
theorem paired_end {α β : Type} {F : α → β → Prop} : ∀ {l : List α} {m : List β} {x : α} {y : β}, Paired F l m → F x y → Paired F (l ++ [x]) (m ++ [y])
  | _, _, _, _, .nil, h => .cons h .nil
  | _, _, _, _, .cons a t, h => .cons a (paired_end t h)
theorem paired_at {α β : Type} {F : α → β → Prop} : ∀ {l : List α} {m : List β} {i : Nat} {x : α}, Paired F l m → l[i]? = some x → ∃ y, m[i]? = some y ∧ F x y
  | _, _, 0, _, .cons h _, e => by
    obtain rfl := Option.some.inj e
    exact ⟨_, rfl, h⟩
  | _, _, i + 1, _, .cons _ t, e => paired_at (i := i) t e
section
variable {P : Program} {w : World} {K : PySem.W.Frag} {mg : Str → Option Value} {base : Heap}
def spRows : Sp := fun vs H Q _ => ∃ (z : Str) (n : Int) (m N : Nat), vs = [.str z, .int n, .int m] ∧ n + m = (N : Int) ∧ N ≤ 12 ∧ (∀ k, k ≤ N → (rowsF z n k).length ≤ 10000) ∧
  ∀ (R : Addr) (ps : List V) (H' : Hp), Same H H' → H' R = some (.lst ps) → Paired (RowP R H') ps (rowsF z n N) → Q (.ref R) H'
theorem ok_label_rows_ {f a_may_follow_ : Addr} {fd fd_may_follow_ : FuncData} (F : Fun K "_label_rows" "_label_rows" s_label_rows_ f fd) (z_range : mg "range" = none) (z_max : mg "max" = none)
    (G_may_follow_ : FnOk P w K mg base CX0 1 a_may_follow_ fd_may_follow_ ["family", "n", "row", "mark"] (spMay K)) (g_may_follow_ : mg "_may_follow" = some (.ref a_may_follow_)) (k_may_follow_ : PySem.W.keepIn K (.ref a_may_follow_) = true) (b_may_follow_ : Binds K fd_may_follow_ ["family", "n", "row", "mark"] []) :
    FnOk P w K mg base CX0 2 f fd ["family", "n", "m"] spRows := by
  refine F.ok sc_label_rows_ (fun vs H Q E h => ?_) (fun cdv A outer s H vs Q E hr h => ?_)
  · obtain ⟨z, n, m, N, rfl, _⟩ := h
    rfl
  · obtain ⟨z, n, m, N, rfl, eN, hN, hsz, q⟩ := h
    refine ⟨_, (pss_cons (ps_set (i := 3) sc_label_rows_.nd rfl (.inl rfl) (pe_lst (pa_cons (pe_lst pa_nil) pa_nil)))
  (pss_cons (ps_for PassesOwn.never rfl (pi_range1 rfl z_range (pa_cons (pe_op op_add (pv 1) (pv 2)) pa_nil)) (pg_name (i := 4) sc_label_rows_.nd rfl (.inl rfl)) (pss_one (ps_setLc2 (i := 3) (own := [("row", 5), ("mark", 6)]) (vs1 := [6]) rfl sc_label_rows_.nd rfl rfl (sw_true rfl rfl rfl (by decide +kernel)) (pi_list (pv 3)) (blkOk_by (N := ["family", "n", "m", "rows", "_", "row", "mark"]) (sc := defScope s_label_rows_) (by decide +kernel)) (by decide) (fun _ _ _ _ _ => (pg_name (i := 5) sc_label_rows_.nd rfl (.inl rfl))) (fun _ _ _ _ _ => pts_nil) (fun _ _ _ _ _ => (pi_range1 rfl z_range (pa_cons (pe_op op_add (pe_callBK (cr_maxDef (K := K) rfl rfl (room64 hr)) (by rfl) z_max boot_max (pa_cons (pv 5) pa_nil) (pk_cons (pe_un un_neg pe_int) pk_nil)) pe_int) pa_nil))) (fun _ _ _ _ _ => (pg_name (i := 6) sc_label_rows_.nd rfl (.inl rfl))) (fun _ _ _ _ _ => pts_one (pt_val (pe_call G_may_follow_ (hr.mono (by decide)) rfl g_may_follow_ k_may_follow_ b_may_follow_ .nil pass0 (pa_cons (pv 0) (pa_cons (pv 1) (pa_cons (pv 5) (pa_cons (pv 6) pa_nil))))))) (fun _ _ _ _ _ => (pe_op op_cat (pv 5) (pe_lst (pa_cons (pv 6) pa_nil)))))))
  (pss_one (ps_ret (pv 3))))), ?_⟩
    have szl : 20000 ≤ sizeLine := by decide
    refine ⟨(by show 0 ≤ sizeLine; omega), fun e1 ne1 => ⟨(by show 1 ≤ sizeLine; omega), fun R0 nR0 => ?_⟩⟩
    have ne : e1 ≠ R0 := fun h => by
      rw [h, upd_same] at nR0
      exact nomatch nR0
    have s1 : Same H (upd (upd H e1 (.lst [])) R0 (.lst [.ref e1])) := Same.trans (same_upd ne1) (same_upd nR0)
    have pr1 : Paired (RowP R0 (upd (upd H e1 (.lst [])) R0 (.lst [.ref e1]))) [.ref e1] (rowsF z n 0) := .cons ⟨e1, rfl, ne, by rw [upd_ne ne, upd_same]; rfl⟩ .nil
    have hR1 : upd (upd H e1 (.lst [])) R0 (.lst [.ref e1]) R0 = some (.lst [.ref e1]) := upd_same
    revert s1 pr1 hR1
    generalize upd (upd H e1 (.lst [])) R0 (.lst [.ref e1]) = H1
    intro s1 pr1 hR1
    refine ⟨_, rfl, _, rfl, _, _, rfl, rfl, _, rfl, by show _ ≤ n + (m : Int); omega, by show n + (m : Int) < _; omega, ?_⟩
    rw [show (n + (m : Int)).toNat = N by omega]
    refine for_range (lo := 0) (n := N) (fun k σ H' => ∃ (R : Addr) (ps : List V) (v4 : Option V), σ = [some (.str z), some (.int n), some (.int m), some (.ref R), v4, none, none] ∧ Same H H' ∧ H' R = some (.lst ps) ∧ Paired (RowP R H') ps (rowsF z n k))
      ⟨R0, _, none, rfl, s1, hR1, pr1⟩ (fun k σ H3 hk hP => ?_) (fun σ H3 hP => ?_)
    · obtain ⟨R, ps, v4, rfl, s3, hR, pr⟩ := hP
      refine ⟨_, rfl, R, rfl, ⟨_, .inl (.inl hR)⟩, fun D nD => ?_⟩
      have hRD : R ≠ D := ne_of_none hR nD
      have tot := hsz (k + 1) (by omega)
      have tot : (accF z n (rowsF z n k)).length ≤ 10000 := tot
      refine walkD_list (xs := ps) (fun i H' => SameBut D H3 H' ∧ ∃ qs, H' D = some (.lst qs) ∧ Paired (RowP D H') qs (accF z n ((rowsF z n k).take i))) ⟨SameBut.upd, [], upd_same, .nil⟩ (fun i H' hP => .inl (.inl (hP.1 _ _ hRD hR))) (fun i x H4 hi hP => ?_) (fun H4 hP => ?_)
      · obtain ⟨sb, qs, hD, pq⟩ := hP
        obtain ⟨row, er, ax, rfl, nax, hax⟩ := paired_at pr hi
        obtain ⟨len, pos, top⟩ := rowsF_ok (List.mem_of_getElem? er)
        have et : (rowsF z n k).take (i + 1) = (rowsF z n k).take i ++ [row] := by rw [List.take_succ, er]; rfl
        have t0 := topL_pos row
        have aD : ax ≠ D := ne_of_none hax nD
        have ha4 := sb _ _ aD hax
        rw [et, accF_snoc]
        have atk := accF_take z n (rowsF z n k) i
        refine ⟨rfl, ?_⟩
        refine ⟨_, rfl, _, rfl, ax, row, -1, rfl, rfl, .inl (.inl ha4), fun e => ?_, fun mx hmx hge => ?_⟩
        · have em : topL row = (-1) + 1 := by rw [e]; rfl
          generalize (-1 : Int) = mx at em ⊢
          refine ⟨_, _, rfl, rfl, mx + 2, rfl, by omega, by omega, ?_⟩
          rw [show (mx + 2).toNat = (topL row).toNat + 1 by omega]
          refine walkD_range (lo := 0) (n := (topL row).toNat + 1) (fun j H' => SameBut D H3 H' ∧ ∃ qs, H' D = some (.lst qs) ∧ Paired (RowP D H') qs (accF z n ((rowsF z n k).take i) ++ nextR z n row j)) ⟨sb, qs, hD, by rw [show nextR z n row 0 = [] from rfl, List.append_nil]; exact pq⟩ (fun j H5 hj hP => ?_) (fun H5 hP => hP)
          obtain ⟨sb5, qs5, hD5, pq5⟩ := hP
          have ha5 := sb5 _ _ aD hax
          have nl := nextR_len z n row j
          refine ⟨rfl, ?_⟩
          rw [show (0 : Int) + (j : Int) = (j : Int) from Int.zero_add _]
          refine ⟨_, rfl, _, rfl, _, rfl, _, rfl, z, n, ax, row, (j : Int), rfl, .inl (.inl ha5), fun H6 s6 => ⟨_, rfl, ?_⟩⟩
          have keep : ∀ {H7 : Hp}, SameBut D H6 H7 → SameBut D H3 H7 := fun w => (sb5.trans (fun b o _ e => s6 b o e)).trans w
          have hD6 := s6 _ _ hD5
          have pq6 : Paired (RowP D H6) qs5 (accF z n ((rowsF z n k).take i) ++ nextR z n row j) := Paired.mapP pq5 fun _ _ h => rowP_keep (fun b o _ e => s6 b o e) h
          have ha6 := s6 _ _ ha5
          have lq : qs5.length ≤ 10020 := by
            rw [pq5.length, List.length_append]
            omega
          by_cases c : mayF z n row (j : Int) = true
          · have en : nextR z n row (j + 1) = nextR z n row j ++ [row ++ [(j : Int)]] := by
              show _ ++ (if _ then _ else _) = _
              rw [if_pos c]
            refine if_pos_of c ⟨_, rfl, _, rfl, (by show 1 ≤ sizeLine; omega), fun q1 nq1 => ?_⟩
            have w1 := same_upd (o := .lst [.int (j : Int)]) nq1
            refine ⟨_, _, _, _, rfl, rfl, w1 _ _ ha6, upd_same, by rw [List.length_map]; show _ + 1 ≤ _; omega, fun q2 nq2 => ?_⟩
            have w2 := Same.trans w1 (same_upd (o := .lst (row.map V.int ++ [.int (j : Int)])) nq2)
            have hq2 : upd (upd H6 q1 (.lst [.int (j : Int)])) q2 (.lst (row.map V.int ++ [.int (j : Int)])) q2 = some (.lst ((row ++ [(j : Int)]).map V.int)) := by rw [upd_same, List.map_append]; rfl
            have hD7 := w2 _ _ hD6
            have q2D : q2 ≠ D := fun e => by
              rw [e] at nq2
              exact nomatch nq2.symm.trans (w1 _ _ hD6)
            revert w2 hq2 hD7
            generalize upd (upd H6 q1 (.lst [.int (j : Int)])) q2 (.lst (row.map V.int ++ [.int (j : Int)])) = H7
            intro w2 hq2 hD7
            refine ⟨_, hD7, by omega, keep (fun b o nb e => SameBut.upd b o nb (w2 b o e)), _, upd_same, ?_⟩
            rw [en, ← List.append_assoc]
            exact paired_end (Paired.mapP pq6 fun _ _ h => rowP_keep (fun b o nb e => SameBut.upd b o nb (w2 b o e)) h) ⟨q2, rfl, q2D, SameBut.upd _ _ q2D hq2⟩
          · have en : nextR z n row (j + 1) = nextR z n row j := by
              show _ ++ (if _ then _ else _) = _
              rw [if_neg c, List.append_nil]
            rw [en]
            exact if_neg_of c ⟨keep (fun b o _ e => e), qs5, hD6, pq6⟩
        · have em := topL_of hmx hge pos
          refine ⟨_, _, rfl, rfl, mx + 2, rfl, by omega, by omega, ?_⟩
          rw [show (mx + 2).toNat = (topL row).toNat + 1 by omega]
          refine walkD_range (lo := 0) (n := (topL row).toNat + 1) (fun j H' => SameBut D H3 H' ∧ ∃ qs, H' D = some (.lst qs) ∧ Paired (RowP D H') qs (accF z n ((rowsF z n k).take i) ++ nextR z n row j)) ⟨sb, qs, hD, by rw [show nextR z n row 0 = [] from rfl, List.append_nil]; exact pq⟩ (fun j H5 hj hP => ?_) (fun H5 hP => hP)
          obtain ⟨sb5, qs5, hD5, pq5⟩ := hP
          have ha5 := sb5 _ _ aD hax
          have nl := nextR_len z n row j
          refine ⟨rfl, ?_⟩
          rw [show (0 : Int) + (j : Int) = (j : Int) from Int.zero_add _]
          refine ⟨_, rfl, _, rfl, _, rfl, _, rfl, z, n, ax, row, (j : Int), rfl, .inl (.inl ha5), fun H6 s6 => ⟨_, rfl, ?_⟩⟩
          have keep : ∀ {H7 : Hp}, SameBut D H6 H7 → SameBut D H3 H7 := fun w => (sb5.trans (fun b o _ e => s6 b o e)).trans w
          have hD6 := s6 _ _ hD5
          have pq6 : Paired (RowP D H6) qs5 (accF z n ((rowsF z n k).take i) ++ nextR z n row j) := Paired.mapP pq5 fun _ _ h => rowP_keep (fun b o _ e => s6 b o e) h
          have ha6 := s6 _ _ ha5
          have lq : qs5.length ≤ 10020 := by
            rw [pq5.length, List.length_append]
            omega
          by_cases c : mayF z n row (j : Int) = true
          · have en : nextR z n row (j + 1) = nextR z n row j ++ [row ++ [(j : Int)]] := by
              show _ ++ (if _ then _ else _) = _
              rw [if_pos c]
            refine if_pos_of c ⟨_, rfl, _, rfl, (by show 1 ≤ sizeLine; omega), fun q1 nq1 => ?_⟩
            have w1 := same_upd (o := .lst [.int (j : Int)]) nq1
            refine ⟨_, _, _, _, rfl, rfl, w1 _ _ ha6, upd_same, by rw [List.length_map]; show _ + 1 ≤ _; omega, fun q2 nq2 => ?_⟩
            have w2 := Same.trans w1 (same_upd (o := .lst (row.map V.int ++ [.int (j : Int)])) nq2)
            have hq2 : upd (upd H6 q1 (.lst [.int (j : Int)])) q2 (.lst (row.map V.int ++ [.int (j : Int)])) q2 = some (.lst ((row ++ [(j : Int)]).map V.int)) := by rw [upd_same, List.map_append]; rfl
            have hD7 := w2 _ _ hD6
            have q2D : q2 ≠ D := fun e => by
              rw [e] at nq2
              exact nomatch nq2.symm.trans (w1 _ _ hD6)
            revert w2 hq2 hD7
            generalize upd (upd H6 q1 (.lst [.int (j : Int)])) q2 (.lst (row.map V.int ++ [.int (j : Int)])) = H7
            intro w2 hq2 hD7
            refine ⟨_, hD7, by omega, keep (fun b o nb e => SameBut.upd b o nb (w2 b o e)), _, upd_same, ?_⟩
            rw [en, ← List.append_assoc]
            exact paired_end (Paired.mapP pq6 fun _ _ h => rowP_keep (fun b o nb e => SameBut.upd b o nb (w2 b o e)) h) ⟨q2, rfl, q2D, SameBut.upd _ _ q2D hq2⟩
          · have en : nextR z n row (j + 1) = nextR z n row j := by
              show _ ++ (if _ then _ else _) = _
              rw [if_neg c, List.append_nil]
            rw [en]
            exact if_neg_of c ⟨keep (fun b o _ e => e), qs5, hD6, pq6⟩
      · obtain ⟨sb, qs, hD, pq⟩ := hP
        rw [pr.length, List.take_length] at pq
        exact ⟨D, qs, _, rfl, Same.trans s3 (fun b o e => sb b o (ne_of_none e nD) e), hD, pq⟩
    · obtain ⟨R, ps, v4, rfl, s3, hR, pr⟩ := hP
      exact ⟨_, rfl, q R ps H3 s3 hR pr⟩
end

/-! ### listed -/
def listF (z : Str) (n m : Nat) : List (List (List Int)) := if cntV z n m = 0 then [] else ((rowsF z (n : Int) (n + m)).map blocksOf).filter (inFam z (n : Int))
section
variable {P : Program} {w : World} {K : PySem.W.Frag} {mg : Str → Option Value} {base : Heap}
def spListed (CF CB CT : Addr) : Sp := fun vs H Q E => ∃ (z : Str) (n m : Int), vs = [.str z, .int n, .int m] ∧ (z ∉ fams → E (.ref CF) none H) ∧ (z ∈ fams → siz n m = false → E (.ref CB) none H) ∧
  (z ∈ fams → siz n m = true → (250 < cntV z n.toNat m.toNat → ∀ H', Same H H' → E (.ref CT) none H') ∧
    (cntV z n.toNat m.toNat ≤ 250 → (cntV z n.toNat m.toNat ≠ 0 → ∀ k, k ≤ n.toNat + m.toNat → (rowsF z n k).length ≤ 10000) ∧
      ∀ (L : Addr) (ps : List V) (H' : Hp), Same H H' → H' L = some (.lst ps) → Paired (fun v bs => DGv H' v n m bs) ps (listF z n.toNat m.toNat) → Q (.ref L) H'))
theorem ok_listed {f CF CB CT CD a_counted a_label_rows_ a_from_labels a_is_in : Addr} {fd fd_counted fd_label_rows_ fd_from_labels fd_is_in : FuncData} {tM : Tok} (F : Fun K "listed" "listed" s_listed f fd) (T : ErrC K mg "TooLarge" CT) (m_MOST_LISTED : mg "MOST_LISTED" = some (.int 250 tM))
    (G_counted : FnOk P w K mg base (L2N.CX P w) 3 a_counted fd_counted ["family", "n", "m"] (spCounted CF CB)) (g_counted : mg "counted" = some (.ref a_counted)) (k_counted : PySem.W.keepIn K (.ref a_counted) = true) (b_counted : Binds K fd_counted ["family", "n", "m"] [])
    (G_label_rows_ : FnOk P w K mg base CX0 2 a_label_rows_ fd_label_rows_ ["family", "n", "m"] spRows) (g_label_rows_ : mg "_label_rows" = some (.ref a_label_rows_)) (k_label_rows_ : PySem.W.keepIn K (.ref a_label_rows_) = true) (b_label_rows_ : Binds K fd_label_rows_ ["family", "n", "m"] [])
    (G_from_labels : FnOk P w K mg base (L2N.CX P w) 3 a_from_labels fd_from_labels ["n", "m", "marks"] (spFromLabels K CB)) (g_from_labels : mg "from_labels" = some (.ref a_from_labels)) (k_from_labels : PySem.W.keepIn K (.ref a_from_labels) = true) (b_from_labels : Binds K fd_from_labels ["n", "m", "marks"] [])
    (G_is_in : FnOk P w K mg base (L2N.CX P w) 4 a_is_in fd_is_in ["family", "diagram"] (spIsIn CF CD)) (g_is_in : mg "is_in" = some (.ref a_is_in)) (k_is_in : PySem.W.keepIn K (.ref a_is_in) = true) (b_is_in : Binds K fd_is_in ["family", "diagram"] []) :
    FnOk P w K mg base (L2N.CX P w) 5 f fd ["family", "n", "m"] (spListed CF CB CT) := by
  obtain ⟨gc_TooLarge, x_TooLarge, kc_TooLarge, bc_TooLarge, tc_TooLarge⟩ := T
  have r_MOST_LISTED : RelV (.int 250) (.int 250 tM) := ⟨_, rfl⟩
  refine F.okXN sc_listed (fun vs H Q E h => ?_) (fun cdv A outer s H vs Q E hr h => ?_)
  · obtain ⟨z, n, m, rfl, _⟩ := h
    rfl
  · obtain ⟨z, n, m, rfl, q1, q2, q3⟩ := h
    refine ⟨_, (pss_cons (ps_set (i := 3) sc_listed.nd rfl (.inl rfl) (pe_call G_counted (hr.mono (by decide)) rfl g_counted k_counted b_counted .nil (L2N.passes_call (L2N.takes_of rfl rfl rfl rfl) (fun _ _ _ _ h => h)) (pa_cons (pv 0) (pa_cons (pv 1) (pa_cons (pv 2) pa_nil)))))
  (pss_cons (ps_if (pt_cmpR op_gt (pv 3) (pe_glob rfl m_MOST_LISTED r_MOST_LISTED) (nomark _)) (pss_one (L2N.ps_raise rfl (L2N.takes_of rfl rfl rfl rfl) (L2N.pmk_own PySem.F.excBase_ValueError x_TooLarge gc_TooLarge kc_TooLarge (raises_own bc_TooLarge tc_TooLarge) rfl))) pss_nil)
  (pss_cons (ps_if (pt_cmpR op_eq (pv 3) pe_int (nomark _)) (pss_one (ps_ret (pe_lst pa_nil))) pss_nil)
  (pss_cons (ps_setLc (i := 4) (own := [("row", 5)]) rfl sc_listed.nd rfl rfl (sw_true rfl rfl rfl (by decide +kernel)) (pi_list (pe_call G_label_rows_ (hr.mono (by decide)) rfl g_label_rows_ k_label_rows_ b_label_rows_ .nil pass0 (pa_cons (pv 0) (pa_cons (pv 1) (pa_cons (pv 2) pa_nil))))) (blkOk_by (N := ["family", "n", "m", "many", "found", "row", "diagram"]) (sc := defScope s_listed) (by first | decide +kernel | rfl)) (fun _ _ _ _ _ => (pg_name (i := 5) sc_listed.nd rfl (.inl rfl))) (fun _ _ _ _ _ => pts_nil) (fun _ _ _ _ _ => (pe_call G_from_labels (hr.mono (by decide)) rfl g_from_labels k_from_labels b_from_labels .nil passLN (pa_cons (pv 1) (pa_cons (pv 2) (pa_cons (pv 5) pa_nil))))))
  (pss_one (ps_ret (pe_lc (own := [("diagram", 6)]) rfl sc_listed.nd (pi_list (pv 4)) (blkOk_by (N := ["family", "n", "m", "many", "found", "row", "diagram"]) (sc := defScope s_listed) (by first | decide +kernel | rfl)) (fun _ _ _ _ _ => (pg_name (i := 6) sc_listed.nd rfl (.inl rfl))) (fun _ _ _ _ _ => pts_one (pt_val (pe_call G_is_in (hr.mono (by decide)) rfl g_is_in k_is_in b_is_in .nil passLN (pa_cons (pv 0) (pa_cons (pv 6) pa_nil))))) (fun _ _ _ _ _ => (pv 6))))))))), ?_⟩
    have szl : 20000 ≤ sizeLine := by decide
    refine ⟨_, rfl, _, rfl, _, rfl, z, n, m, rfl, q1, q2, fun mz hs H1 s1 => ?_⟩
    obtain ⟨q4, q5⟩ := q3 mz hs
    have zz := siz_iff.mp hs
    generalize ec : cntV z n.toNat m.toNat = c at q4 q5
    refine ⟨_, rfl, _, _, rfl, rfl, _, rfl, ?_⟩
    by_cases c1 : c > 250
    · exact if_pos_of (decide_eq_true c1) (q4 c1 H1 s1)
    refine if_neg_of (fun h => c1 (of_decide_eq_true h)) ?_
    obtain ⟨hsz, q⟩ := q5 (by omega)
    refine ⟨_, rfl, rfl, _, rfl, ?_⟩
    unfold listF at q
    rw [ec] at q
    by_cases c0 : c = 0
    · rw [if_pos c0] at q
      exact if_pos_of (decide_eq_true (by rw [c0])) ⟨(by show 0 ≤ sizeLine; omega), fun L nL => q L [] _ (Same.trans s1 (same_upd nL)) upd_same .nil⟩
    rw [if_neg c0] at q
    refine if_neg_of (fun h => c0 (V.int.inj (of_decide_eq_true h))) ?_
    obtain ⟨n, rfl⟩ : ∃ u : Nat, n = (u : Int) := ⟨n.toNat, by omega⟩
    obtain ⟨m, rfl⟩ : ∃ u : Nat, m = (u : Int) := ⟨m.toNat, by omega⟩
    rw [show ((n : Nat) : Int).toNat = n from rfl, show ((m : Nat) : Int).toNat = m from rfl] at q hsz
    have hsz := hsz c0
    refine ⟨_, rfl, _, rfl, _, rfl, z, n, m, n + m, rfl, by omega, by omega, hsz, fun R ps H2 s2 hR pr => ?_⟩
    have len1 := hsz (n + m) (Nat.le_refl _)
    have lps := pr.length
    generalize er : rowsF z (n : Int) (n + m) = rows at q pr len1 lps
    have each : ∀ row, row ∈ rows → (row.length : Int) = (n : Int) + (m : Int) := fun row h => by
      rw [← er] at h
      have := (rowsF_ok h).1
      omega
    refine ⟨R, rfl, ⟨_, .inl (.inl hR)⟩, fun D nD => ?_⟩
    have hRD : R ≠ D := ne_of_none hR nD
    refine lc_list (xs := ps) (fun i H' => SameBut D H2 H' ∧ ∃ ds, H' D = some (.lst ds) ∧ Paired (fun v bs => DGv H' v n m bs) ds ((rows.take i).map blocksOf)) ⟨SameBut.upd, [], upd_same, .nil⟩ (fun i H' hi hP => .inl (.inl (hP.1 _ _ hRD hR))) (fun i y H' hi hP => ?_) (fun H4 hP => ?_)
    · obtain ⟨sb, ds, hD, pd⟩ := hP
      obtain ⟨row, erow, ax, rfl, nax, hax⟩ := paired_at pr hi
      have aD : ax ≠ D := ne_of_none hax nD
      have lr := each row (List.mem_of_getElem? erow)
      have ld := pd.length
      rw [List.length_map, List.length_take] at ld
      refine ⟨rfl, ?_⟩
      refine ⟨_, rfl, _, rfl, _, rfl, n, m, ax, row, rfl, .inl (.inl (sb _ _ aD hax)), by omega, (fun z => by rw [hs] at z; exact nomatch z), fun _ => ⟨fun z => absurd lr z, fun _ v H5 s5 dv => ?_⟩⟩
      have hD5 := s5 _ _ hD
      refine ⟨_, hD5, by omega, (sb.trans (fun b o _ e => s5 b o e)).trans SameBut.upd, _, upd_same, ?_⟩
      rw [List.take_succ, erow, List.map_append]
      exact paired_end (Paired.mapP pd fun _ _ h => (h.same s5).butL hD5 SameBut.upd) (dv.butL hD5 SameBut.upd)
    · obtain ⟨sb, ds, hD, pd⟩ := hP
      rw [lps, List.take_length] at pd
      have s4 : Same H2 H4 := fun b o e => sb b o (ne_of_none e nD) e
      have lds := pd.length
      rw [List.length_map] at lds
      refine ⟨_, rfl, D, rfl, ⟨_, .inl (.inl hD)⟩, fun L nL => ?_⟩
      have hDL : D ≠ L := ne_of_none hD nL
      refine lc_list (xs := ds) (fun i H' => SameBut L H4 H' ∧ ∃ es, es.length ≤ i ∧ H' L = some (.lst es) ∧ Paired (fun v bs => DGv H' v n m bs) es (((rows.map blocksOf).take i).filter (inFam z (n : Int)))) ⟨SameBut.upd, [], Nat.le_refl _, upd_same, .nil⟩ (fun i H' hi hP => .inl (.inl (hP.1 _ _ hDL hD))) (fun i y H' hi hP => ?_) (fun H5 hP => ?_)
      · obtain ⟨sbL, es, le, hL, pe⟩ := hP
        obtain ⟨bs, ebs, dv⟩ := paired_at pd hi
        have keep : ∀ {v : V} {b : List (List Int)}, DGv H4 v n m b → DGv H' v n m b := fun {v b} h => h.same (fun b o e => sbL b o (ne_of_none e nL) e)
        obtain ⟨row, erow, rfl⟩ : ∃ row, row ∈ rows ∧ blocksOf row = bs := by
          obtain ⟨row, h1, h2⟩ := List.mem_map.mp (List.mem_of_getElem? ebs)
          exact ⟨row, h1, h2⟩
        have dA : DgAt H' y n m row := ⟨keep dv, hs, each row erow⟩
        have hil : i < ds.length := (List.getElem?_eq_some_iff.mp hi).1
        refine ⟨rfl, ?_⟩
        refine ⟨_, rfl, _, rfl, z, y, n, m, _, rfl, dA.1, dA.ok, (fun nz => absurd mz nz), (fun _ nd => absurd dA.dg nd), fun _ _ H6 s6 => ⟨_, rfl, ?_⟩⟩
        have hL6 := s6 _ _ hL
        have pe6 : Paired (fun v bs => DGv H6 v n m bs) es (((rows.map blocksOf).take i).filter (inFam z (n : Int))) := Paired.mapP pe fun _ _ h => h.same s6
        have sb6 : SameBut L H4 H6 := sbL.trans (fun b o _ e => s6 b o e)
        rw [List.take_succ, ebs, List.filter_append]
        by_cases ci : inFam z (n : Int) (blocksOf row) = true
        · have e1 : (some (blocksOf row)).toList.filter (inFam z (n : Int)) = [blocksOf row] := by
            show [blocksOf row].filter _ = _
            rw [List.filter_cons, if_pos ci]
            rfl
          rw [e1]
          refine if_pos_of ci ⟨_, rfl, _, hL6, by omega, sb6.trans SameBut.upd, _, by rw [List.length_append]; show _ + 1 ≤ _; omega, upd_same, ?_⟩
          exact paired_end (Paired.mapP pe6 fun _ _ h => h.butL hL6 SameBut.upd) ((dA.1.same s6).butL hL6 SameBut.upd)
        · have e1 : (some (blocksOf row)).toList.filter (inFam z (n : Int)) = [] := by
            show [blocksOf row].filter _ = _
            rw [List.filter_cons, if_neg ci]
            rfl
          rw [e1, List.append_nil]
          exact if_neg_of ci ⟨sb6, es, by omega, hL6, pe6⟩
      · obtain ⟨sbL, es, le, hL, pe⟩ := hP
        rw [show (rows.map blocksOf).take ds.length = rows.map blocksOf from by rw [lds, ← List.length_map (f := blocksOf), List.take_length]] at pe
        have s5 : Same H4 H5 := fun b o e => sbL b o (ne_of_none e nL) e
        exact q L es H5 (Same.trans s1 (Same.trans s2 (Same.trans s4 s5))) hL pe
end

/-! ### slices of lists of integers -/
theorem cutI {l : List Int} (lo hi : Option Int) : cutV (l.map V.int) lo hi = ((l.drop (HT.sIx l.length 0 lo)).take (HT.sIx l.length l.length hi - HT.sIx l.length 0 lo)).map V.int := by
  unfold cutV
  rw [List.length_map, ← List.map_drop, ← List.map_take]
theorem cutI_to {l : List Int} {b : Int} (h0 : 0 ≤ b) (h : b ≤ l.length) : cutV (l.map V.int) none (some b) = (l.take b.toNat).map V.int := by
  obtain ⟨k, rfl⟩ := Int.eq_ofNat_of_zero_le h0
  rw [cutI, HT.sIx_none, HT.sIx_nat, Nat.min_eq_left (by omega), List.drop_zero, Nat.sub_zero]
  rfl
theorem cutI_from {l : List Int} {a : Int} (h0 : 0 ≤ a) (h : a ≤ l.length) : cutV (l.map V.int) (some a) none = (l.drop a.toNat).map V.int := by
  obtain ⟨k, rfl⟩ := Int.eq_ofNat_of_zero_le h0
  rw [cutI, HT.sIx_none, HT.sIx_nat, Nat.min_eq_left (by omega)]
  show ((l.drop k).take (l.length - k)).map V.int = (l.drop k).map V.int
  rw [← List.length_drop, List.take_length]
theorem cutI_mid {l : List Int} {a b : Int} (h0 : 0 ≤ a) (h1 : a ≤ b) (h : b ≤ l.length) : cutV (l.map V.int) (some a) (some b) = ((l.drop a.toNat).take (b.toNat - a.toNat)).map V.int := by
  obtain ⟨k, rfl⟩ := Int.eq_ofNat_of_zero_le h0
  obtain ⟨j, rfl⟩ := Int.eq_ofNat_of_zero_le (show 0 ≤ b by omega)
  rw [cutI, HT.sIx_nat, HT.sIx_nat, Nat.min_eq_left (by omega), Nat.min_eq_left (by omega)]
  rfl
theorem sIx_neg1 (n d : Nat) : HT.sIx n d (some (-1)) = n - 1 := by
  show (if (-1 : Int) < 0 then ((-1 : Int) + (n : Int)).toNat else min (-1 : Int).toNat n) = n - 1
  rw [if_pos (by decide)]
  omega
theorem cutI_last {l : List Int} : cutV (l.map V.int) (some (-1)) none = (l.drop (l.length - 1)).map V.int := by
  rw [cutI, HT.sIx_none, sIx_neg1]
  rw [← List.length_drop, List.take_length]
theorem cutI_but {l : List Int} {a : Int} (h0 : 0 ≤ a) (h : a ≤ l.length) : cutV (l.map V.int) (some a) (some (-1)) = ((l.drop a.toNat).take (l.length - 1 - a.toNat)).map V.int := by
  obtain ⟨k, rfl⟩ := Int.eq_ofNat_of_zero_le h0
  rw [cutI, HT.sIx_nat, sIx_neg1, Nat.min_eq_left (by omega)]
  rfl
/-- the labels of a diagram stand for the marks -/
theorem labs_map {n m : Int} {l : List Int} (hl : (l.length : Int) = n + m) : ∃ g : Int → Int, labL (blocksOf l) (n + m).toNat = l.map g ∧ ∀ x ∈ l, ∀ y ∈ l, g x = g y → x = y := by
  refine ⟨fun v => (((seenL [] l).idxOf v : Nat) : Int), ?_, fun x hx y hy h => idx_inj ((seenL_mem l [] x).mpr (.inr hx)) ((seenL_mem l [] y).mpr (.inr hy)) h⟩
  rw [show (n + m).toNat = l.length by omega]
  exact labL_marks l
/-- a choice of marks by their places -/
theorem blocks_sel {n m : Int} {l : List Int} (hl : (l.length : Int) = n + m) {sel : List Int → List Int} (hm : ∀ (g : Int → Int) (z : List Int), sel (z.map g) = (sel z).map g) (hs : ∀ x ∈ sel l, x ∈ l) : blocksOf (sel (labL (blocksOf l) (n + m).toNat)) = blocksOf (sel l) := by
  obtain ⟨g, e, inj⟩ := labs_map hl
  rw [e, hm]
  exact blocksOf_map fun x hx y hy h => inj x (hs x hx) y (hs y hy) h

/-! ### what is joined by links -/
inductive Conn (E : Nat → Nat → Prop) : Nat → Nat → Prop
  | rf (i : Nat) : Conn E i i
  | ed {i j : Nat} : E i j → Conn E i j
  | sy {i j : Nat} : Conn E i j → Conn E j i
  | tr {i j k : Nat} : Conn E i j → Conn E j k → Conn E i k
theorem Conn.map {E F : Nat → Nat → Prop} {f : Nat → Nat} (h : ∀ i j, E i j → Conn F (f i) (f j)) {i j : Nat} (c : Conn E i j) : Conn F (f i) (f j) := by
  induction c with
  | rf i => exact .rf _
  | ed e => exact h _ _ e
  | sy _ ih => exact .sy ih
  | tr _ _ a b => exact .tr a b
theorem Conn.mono {E F : Nat → Nat → Prop} (h : ∀ i j, E i j → Conn F i j) {i j : Nat} (c : Conn E i j) : Conn F i j := Conn.map (f := id) h c
/-- what all links keep -/
theorem Conn.keep {α : Type} {E : Nat → Nat → Prop} {g : Nat → α} (h : ∀ i j, E i j → g i = g j) {i j : Nat} (c : Conn E i j) : g i = g j := by
  induction c with
  | rf i => rfl
  | ed e => exact h _ _ e
  | sy _ ih => exact ih.symm
  | tr _ _ a b => exact a.trans b
def Bd (N : Nat) (E : Nat → Nat → Prop) : Prop := ∀ i j, E i j → i < N ∧ j < N
theorem Conn.bd {N : Nat} {E : Nat → Nat → Prop} (b : Bd N E) {i j : Nat} (c : Conn E i j) : i < N ↔ j < N := by
  induction c with
  | rf i => exact Iff.rfl
  | ed e => exact ⟨fun _ => (b _ _ e).2, fun _ => (b _ _ e).1⟩
  | sy _ ih => exact ih.symm
  | tr _ _ x y => exact x.trans y
/-- two have one mark exactly if they are joined -/
structure Ks (N : Nat) (l : List Int) (E : Nat → Nat → Prop) : Prop where
  len : l.length = N
  bd : Bd N E
  eq : ∀ i j, i < N → j < N → (co l i = co l j ↔ Conn E i j)
theorem Ks.congr {N : Nat} {l : List Int} {E F : Nat → Nat → Prop} (k : Ks N l E) (b : Bd N F) (h1 : ∀ i j, E i j → Conn F i j) (h2 : ∀ i j, F i j → Conn E i j) : Ks N l F :=
  ⟨k.len, b, fun i j hi hj => (k.eq i j hi hj).trans ⟨Conn.mono h1, Conn.mono h2⟩⟩
theorem ks_start (N : Nat) : Ks N (ixs N) fun _ _ => False := ⟨ixs_len' N, fun _ _ h => h.elim, fun i j hi hj => by
  rw [co_ixs hi, co_ixs hj]
  exact ⟨fun h => by rw [Int.ofNat.inj h]; exact .rf _, fun c => by rw [Conn.keep (g := fun i => i) (fun _ _ h => h.elim) c]⟩⟩
theorem ks_marks (l : List Int) : Ks l.length l fun i j => i < l.length ∧ j < l.length ∧ co l i = co l j :=
  ⟨rfl, fun _ _ h => ⟨h.1, h.2.1⟩, fun i j hi hj => ⟨fun h => .ed ⟨hi, hj, h⟩, fun c => Conn.keep (fun _ _ h => h.2.2) c⟩⟩
/-- two marks become one -/
theorem Ks.step {N : Nat} {l l' : List Int} {E : Nat → Nat → Prop} {x y : Nat} {u v : Int} (k : Ks N l E) (hx : x < N) (hy : y < N) (hl : l'.length = N)
    (uv : (u = co l y ∧ v = co l x) ∨ (u = co l x ∧ v = co l y)) (h : ∀ i, i < N → co l' i = if co l i = u then v else co l i) : Ks N l' fun i j => E i j ∨ (i = x ∧ j = y) := by
  have b : Bd N fun i j => E i j ∨ (i = x ∧ j = y) := fun i j h => h.elim (k.bd i j) fun ⟨e1, e2⟩ => by rw [e1, e2]; exact ⟨hx, hy⟩
  have up : ∀ {i j}, Conn E i j → Conn (fun i j => E i j ∨ (i = x ∧ j = y)) i j := fun c => c.mono fun _ _ h => .ed (.inl h)
  have xy : Conn (fun i j => E i j ∨ (i = x ∧ j = y)) x y := .ed (.inr ⟨rfl, rfl⟩)
  -- what has the mark u is joined to what has the mark v
  have uvc : ∀ i j, i < N → j < N → co l i = u → co l j = v → Conn (fun i j => E i j ∨ (i = x ∧ j = y)) i j := fun i j hi hj e1 e2 => by
    rcases uv with ⟨a, b⟩ | ⟨a, b⟩
    · have c1 := (k.eq i y hi hy).mp (by rw [e1, a])
      have c2 := (k.eq j x hj hx).mp (by rw [e2, b])
      exact (up c1).tr (xy.sy.tr (up c2).sy)
    · have c1 := (k.eq i x hi hx).mp (by rw [e1, a])
      have c2 := (k.eq j y hj hy).mp (by rw [e2, b])
      exact (up c1).tr (xy.tr (up c2).sy)
  refine ⟨hl, b, fun i j hi hj => ⟨fun e => ?_, fun c => ?_⟩⟩
  · rw [h i hi, h j hj] at e
    by_cases c1 : co l i = u
    · by_cases c2 : co l j = u
      · exact up ((k.eq i j hi hj).mp (c1.trans c2.symm))
      · rw [if_pos c1, if_neg c2] at e
        exact uvc i j hi hj c1 e.symm
    · by_cases c2 : co l j = u
      · rw [if_neg c1, if_pos c2] at e
        exact (uvc j i hj hi c2 e).sy
      · rw [if_neg c1, if_neg c2] at e
        exact up ((k.eq i j hi hj).mp e)
  · have one : ∀ i j, i < N → j < N → co l i = co l j → co l' i = co l' j := fun i j hi hj e => by rw [h i hi, h j hj, e]
    have both : co l' x = v ∧ co l' y = v := by
      rw [h x hx, h y hy]
      rcases uv with ⟨a, b⟩ | ⟨a, b⟩
      · rw [if_pos a.symm]
        refine ⟨?_, rfl⟩
        by_cases c : co l x = u
        · rw [if_pos c]
        · rw [if_neg c, b]
      · rw [if_pos a.symm]
        refine ⟨rfl, ?_⟩
        by_cases c : co l y = u
        · rw [if_pos c]
        · rw [if_neg c, b]
    have run : ∀ {i j}, Conn (fun i j => E i j ∨ (i = x ∧ j = y)) i j → i < N → co l' i = co l' j := fun {i j} c => by
      induction c with
      | rf i => exact fun _ => rfl
      | ed e =>
        intro hi
        rcases e with e | ⟨rfl, rfl⟩
        · have := k.bd _ _ e
          exact one _ _ this.1 this.2 ((k.eq _ _ this.1 this.2).mpr (.ed e))
        · exact both.1.trans both.2.symm
      | sy c ih => exact fun hi => (ih ((c.bd b).mpr hi)).symm
      | tr c _ ih1 ih2 => exact fun hi => (ih1 hi).trans (ih2 ((c.bd b).mp hi))
    exact run c hi
theorem co_map_lt {f : Int → Int} {l : List Int} {i : Nat} (h : i < l.length) : co (l.map f) i = f (co l i) := co_mapI f l h
/-- the program's way of joining: the second one's mark gives way -/
def uj (l : List Int) (x y : Nat) : List Int := l.map fun c => if c = co l y then co l x else c
theorem uj_len (l : List Int) (x y : Nat) : (uj l x y).length = l.length := List.length_map ..
theorem Ks.uj {N : Nat} {l : List Int} {E : Nat → Nat → Prop} {x y : Nat} (k : Ks N l E) (hx : x < N) (hy : y < N) : Ks N (uj l x y) fun i j => E i j ∨ (i = x ∧ j = y) :=
  k.step hx hy ((uj_len l x y).trans k.len) (.inl ⟨rfl, rfl⟩) fun i hi => co_map_lt (by rw [k.len]; exact hi)
theorem Ks.jn {N : Nat} {l : List Int} {E : Nat → Nat → Prop} {x y : Nat} (k : Ks N l E) (hx : x < N) (hy : y < N) : Ks N (jn l x y) fun i j => E i j ∨ (i = x ∧ j = y) := by
  refine k.step (u := if co l y > co l x then co l y else co l x) (v := if co l y < co l x then co l y else co l x) hx hy ((jn_len l x y).trans k.len) ?_ fun i hi => co_map_lt (by rw [k.len]; exact hi)
  by_cases c : co l y > co l x
  · rw [if_pos c, if_neg (by omega)]
    exact .inl ⟨rfl, rfl⟩
  · rw [if_neg c]
    by_cases d : co l y < co l x
    · rw [if_pos d]
      exact .inr ⟨rfl, rfl⟩
    · rw [if_neg d]
      exact .inl ⟨by omega, rfl⟩
/-- the pieces of groups -/
def ujB (l : List Int) (b : List Int) : List Int := (b.drop 1).foldl (fun l p => uj l (co b 0).toNat p.toNat) l
def ujs (l : List Int) (gs : List (List Int)) : List Int := gs.foldl ujB l
def pcs (N : Nat) (gs : List (List Int)) : List Int := ujs (ixs N) gs
def GE (gs : List (List Int)) (i j : Nat) : Prop := ∃ g ∈ gs, ∃ p ∈ g.drop 1, i = (co g 0).toNat ∧ j = p.toNat
def GBd (N : Nat) (gs : List (List Int)) : Prop := ∀ g ∈ gs, g ≠ [] ∧ ∀ p ∈ g, 0 ≤ p ∧ p < (N : Int)
theorem GBd.head {N : Nat} {gs : List (List Int)} (h : GBd N gs) {g : List Int} (hg : g ∈ gs) : (co g 0).toNat < N := by
  have ne := (h g hg).1
  have := (h g hg).2 (co g 0) (co_mem (by cases g with | nil => exact absurd rfl ne | cons _ _ => exact Nat.zero_lt_succ _))
  omega
theorem GBd.pt {N : Nat} {gs : List (List Int)} (h : GBd N gs) {g : List Int} (hg : g ∈ gs) {p : Int} (hp : p ∈ g) : p.toNat < N := by
  have := (h g hg).2 p hp
  omega
theorem ks_fold {N : Nat} (x : Nat) (hx : x < N) : ∀ (ps : List Int) (l : List Int) (E : Nat → Nat → Prop), (∀ p ∈ ps, p.toNat < N) → Ks N l E → Ks N (ps.foldl (fun l p => uj l x p.toNat) l) fun i j => E i j ∨ ∃ p ∈ ps, i = x ∧ j = p.toNat
  | [], l, E, _, k => k.congr (fun i j h => h.elim (k.bd i j) fun ⟨_, h, _⟩ => nomatch h) (fun i j h => .ed (.inl h)) fun i j h => h.elim .ed fun ⟨_, h, _⟩ => nomatch h
  | p :: ps, l, E, hp, k => by
    have k1 := k.uj hx (hp p List.mem_cons_self)
    have k2 := ks_fold x hx ps _ _ (fun q hq => hp q (List.mem_cons_of_mem _ hq)) k1
    refine k2.congr (fun i j h => ?_) (fun i j h => ?_) fun i j h => ?_
    · rcases h with h | ⟨q, hq, rfl, rfl⟩
      · exact k.bd i j h
      · exact ⟨hx, hp q hq⟩
    · rcases h with (h | ⟨e1, e2⟩) | ⟨q, hq, e⟩
      · exact .ed (.inl h)
      · exact .ed (.inr ⟨p, List.mem_cons_self, e1, e2⟩)
      · exact .ed (.inr ⟨q, List.mem_cons_of_mem _ hq, e⟩)
    · rcases h with h | ⟨q, hq, e⟩
      · exact .ed (.inl (.inl h))
      · rcases List.mem_cons.mp hq with rfl | hq
        · exact .ed (.inl (.inr e))
        · exact .ed (.inr ⟨q, hq, e⟩)
theorem ks_groups {N : Nat} : ∀ (gs : List (List Int)) (l : List Int) (E : Nat → Nat → Prop), GBd N gs → Ks N l E → Ks N (ujs l gs) fun i j => E i j ∨ GE gs i j
  | [], l, E, _, k => k.congr (fun i j h => h.elim (k.bd i j) fun ⟨_, h, _⟩ => nomatch h) (fun i j h => .ed (.inl h)) fun i j h => h.elim .ed fun ⟨_, h, _⟩ => nomatch h
  | g :: gs, l, E, hb, k => by
    have k1 := ks_fold (co g 0).toNat (hb.head List.mem_cons_self) (g.drop 1) l E (fun p hp => hb.pt List.mem_cons_self (List.mem_of_mem_drop hp)) k
    have k2 := ks_groups gs _ _ (fun x hx => hb x (List.mem_cons_of_mem _ hx)) k1
    refine k2.congr (fun i j h => ?_) (fun i j h => ?_) fun i j h => ?_
    · rcases h with h | ⟨x, hx, p, hp, rfl, rfl⟩
      · exact k.bd i j h
      · exact ⟨hb.head hx, hb.pt hx (List.mem_of_mem_drop hp)⟩
    · rcases h with (h | ⟨p, hp, e⟩) | ⟨x, hx, p, hp, e⟩
      · exact .ed (.inl h)
      · exact .ed (.inr ⟨g, List.mem_cons_self, p, hp, e⟩)
      · exact .ed (.inr ⟨x, List.mem_cons_of_mem _ hx, p, hp, e⟩)
    · rcases h with h | ⟨x, hx, p, hp, e⟩
      · exact .ed (.inl (.inl h))
      · rcases List.mem_cons.mp hx with rfl | hx
        · exact .ed (.inl (.inr ⟨p, hp, e⟩))
        · exact .ed (.inr ⟨x, hx, p, hp, e⟩)
theorem ks_pcs {N : Nat} {gs : List (List Int)} (hb : GBd N gs) : Ks N (pcs N gs) (GE gs) := by
  have k := ks_groups gs (ixs N) _ hb (ks_start N)
  exact k.congr (fun i j ⟨x, hx, p, hp, e1, e2⟩ => by rw [e1, e2]; exact ⟨hb.head hx, hb.pt hx (List.mem_of_mem_drop hp)⟩) (fun i j h => h.elim (fun z => z.elim) .ed) fun i j h => .ed (.inr h)
/-- the law's way -/
def jns (l : List Int) (es : List (Nat × Nat)) : List Int := es.foldl (fun l e => jn l e.1 e.2) l
theorem ks_jns {N : Nat} : ∀ (es : List (Nat × Nat)) (l : List Int) (E : Nat → Nat → Prop), (∀ e ∈ es, e.1 < N ∧ e.2 < N) → Ks N l E → Ks N (jns l es) fun i j => E i j ∨ (i, j) ∈ es
  | [], l, E, _, k => k.congr (fun i j h => h.elim (k.bd i j) fun h => nomatch h) (fun i j h => .ed (.inl h)) fun i j h => h.elim .ed fun h => nomatch h
  | e :: es, l, E, hb, k => by
    have k1 := k.jn (hb e List.mem_cons_self).1 (hb e List.mem_cons_self).2
    have k2 := ks_jns es _ _ (fun x hx => hb x (List.mem_cons_of_mem _ hx)) k1
    refine k2.congr (fun i j h => ?_) (fun i j h => ?_) fun i j h => ?_
    · rcases h with h | h
      · exact k.bd i j h
      · exact hb _ h
    · rcases h with (h | ⟨e1, e2⟩) | h
      · exact .ed (.inl h)
      · exact .ed (.inr (by rw [e1, e2]; exact List.mem_cons_self))
      · exact .ed (.inr (List.mem_cons_of_mem _ h))
    · rcases h with h | h
      · exact .ed (.inl (.inl h))
      · rcases List.mem_cons.mp h with h | h
        · have e1 := congrArg Prod.fst h
          have e2 := congrArg Prod.snd h
          exact .ed (.inl (.inr ⟨e1, e2⟩))
        · exact .ed (.inr h)
/-! ### what hangs on the pieces alone -/
def KerEq (a b : List Int) : Prop := a.length = b.length ∧ ∀ i j, i < a.length → j < a.length → (co a i = co a j ↔ co b i = co b j)
theorem Ks.ker {N : Nat} {a b : List Int} {E : Nat → Nat → Prop} (x : Ks N a E) (y : Ks N b E) : KerEq a b :=
  ⟨x.len.trans y.len.symm, fun i j hi hj => by rw [x.len] at hi hj; exact (x.eq i j hi hj).trans (y.eq i j hi hj).symm⟩
theorem ixf_co {l : List Int} {v : Int} (h : v ∈ l) : l.idxOf v < l.length ∧ co l (l.idxOf v) = v := by
  have hl := List.idxOf_lt_length_of_mem h
  refine ⟨hl, ?_⟩
  have e : l[l.idxOf v]? = some v := by rw [List.getElem?_eq_getElem hl, List.getElem_idxOf]
  exact Option.some.inj ((co_get hl).symm.trans e)
theorem co_ext {a b : List Int} (hl : a.length = b.length) (h : ∀ i, i < a.length → co a i = co b i) : a = b := by
  refine List.ext_getElem? fun i => ?_
  by_cases c : i < a.length
  · rw [co_get c, co_get (by omega), h i c]
  · rw [List.getElem?_eq_none (by omega), List.getElem?_eq_none (by omega)]
theorem KerEq.img {a b : List Int} (k : KerEq a b) : ∃ g : Int → Int, b = a.map g ∧ ∀ x ∈ a, ∀ y ∈ a, g x = g y → x = y := by
  refine ⟨fun v => co b (a.idxOf v), ?_, fun x hx y hy e => ?_⟩
  · refine co_ext (by rw [List.length_map, k.1]) fun i hi => ?_
    rw [← k.1] at hi
    rw [co_map_lt hi]
    have m := ixf_co (co_mem hi)
    exact (k.2 i _ hi m.1).mp m.2.symm
  · have m1 := ixf_co hx
    have m2 := ixf_co hy
    have := (k.2 _ _ m1.1 m2.1).mpr e
    rw [m1.2, m2.2] at this
    exact this
theorem KerEq.blocks {a b : List Int} (k : KerEq a b) : blocksOf b = blocksOf a := by
  obtain ⟨g, e, inj⟩ := k.img
  rw [e]
  exact blocksOf_map inj
/-- the pieces of which no mark is shown -/
def hid (ms shown : List Int) : Nat := ((seenL [] ms).filter fun k => decide (k ∉ shown)).length
theorem hid_is {ms shown L : List Int} (nd : L.Nodup) (h : ∀ k, k ∈ L ↔ k ∈ ms ∧ k ∉ shown) : L.length = hid ms shown := by
  refine SD.same_len nd ((seenL_nodup ms [] List.nodup_nil).filter _) fun k => ?_
  rw [h k, List.mem_filter, seenL_mem, decide_eq_true_eq]
  exact ⟨fun z => ⟨.inr z.1, z.2⟩, fun z => ⟨z.1.elim (fun q => nomatch q) id, z.2⟩⟩
def cnt (ms : List Int) : Nat := (seenL [] ms).length
theorem cnt_is {ms L : List Int} (nd : L.Nodup) (h : ∀ k, k ∈ L ↔ k ∈ ms) : L.length = cnt ms := by
  refine SD.same_len nd (seenL_nodup ms [] List.nodup_nil) fun k => ?_
  rw [h k, seenL_mem]
  exact ⟨.inr, fun z => z.elim (fun q => nomatch q) id⟩
theorem cnt_hid (ms : List Int) : cnt ms = hid ms [] := by
  unfold cnt hid
  rw [List.filter_eq_self.mpr fun k _ => decide_eq_true List.not_mem_nil]
/-- pieces told by two rows of points: f leads from the second to the first -/
theorem hid_map {a b sa sb : List Int} (f : Nat → Nat) (hf : ∀ i, i < b.length → f i < a.length) (on : ∀ i, i < a.length → ∃ j, j < b.length ∧ co a (f j) = co a i) (kq : ∀ i j, i < b.length → j < b.length → (co b i = co b j ↔ co a (f i) = co a (f j)))
    (sh : ∀ i, i < b.length → (co b i ∈ sb ↔ co a (f i) ∈ sa)) : hid b sb = hid a sa := by
  have nb := (seenL_nodup b [] List.nodup_nil).filter fun k => decide (k ∉ sb)
  have memb : ∀ k, k ∈ (seenL [] b).filter (fun k => decide (k ∉ sb)) ↔ k ∈ b ∧ k ∉ sb := fun k => by
    rw [List.mem_filter, seenL_mem, decide_eq_true_eq]
    exact ⟨fun z => ⟨z.1.elim (fun q => nomatch q) id, z.2⟩, fun z => ⟨.inr z.1, z.2⟩⟩
  have e : hid b sb = (((seenL [] b).filter fun k => decide (k ∉ sb)).map fun v => co a (f (b.idxOf v))).length := (List.length_map ..).symm
  rw [e]
  refine hid_is ?_ fun k => ?_
  · refine List.Pairwise.map _ (R := fun x y => x ∈ b ∧ y ∈ b ∧ x ≠ y) (fun x y ⟨hx, hy, ne⟩ z => ?_) (List.Pairwise.imp_of_mem (fun hx hy ne => ⟨((memb _).mp hx).1, ((memb _).mp hy).1, ne⟩) nb)
    have m1 := ixf_co hx
    have m2 := ixf_co hy
    have := (kq _ _ m1.1 m2.1).mpr z
    rw [m1.2, m2.2] at this
    exact ne this
  · rw [List.mem_map]
    constructor
    · rintro ⟨v, hv, rfl⟩
      obtain ⟨h1, h2⟩ := (memb v).mp hv
      have m := ixf_co h1
      refine ⟨co_mem (hf _ m.1), fun z => h2 ?_⟩
      rw [← m.2]
      exact (sh _ m.1).mpr z
    · rintro ⟨h1, h2⟩
      have m := ixf_co h1
      obtain ⟨j, hj, ej⟩ := on _ m.1
      rw [m.2] at ej
      have m2 := ixf_co (co_mem hj)
      have back : co a (f (b.idxOf (co b j))) = k := ((kq _ _ m2.1 hj).mp m2.2).trans ej
      refine ⟨co b j, (memb _).mpr ⟨co_mem hj, fun z => h2 ?_⟩, back⟩
      rw [← ej]
      exact (sh j hj).mp z
/-! ### blocks as groups -/
theorem blocks_ge {l : List Int} : ∀ i j, GE (blocksOf l) i j → i < l.length ∧ j < l.length ∧ co l i = co l j := by
  rintro i j ⟨g, hg, p, hp, rfl, rfl⟩
  unfold blocksOf at hg
  obtain ⟨v, hv, rfl⟩ := List.mem_map.mp hg
  have ne := blocks_ne (marks := l) _ (by unfold blocksOf; exact List.mem_map.mpr ⟨v, hv, rfl⟩)
  obtain ⟨a, ea, la, va⟩ := mem_posOf.mp (show co (posOf l v) 0 ∈ posOf l v from co_mem (by cases e : posOf l v with | nil => exact absurd e ne | cons _ _ => exact Nat.zero_lt_succ _))
  obtain ⟨b, eb, lb, vb⟩ := mem_posOf.mp (List.mem_of_mem_drop hp)
  rw [ea, eb]
  exact ⟨la, lb, va.trans vb.symm⟩
theorem ge_blocks {l : List Int} {i j : Nat} (hi : i < l.length) (hj : j < l.length) (e : co l i = co l j) : Conn (GE (blocksOf l)) i j := by
  have hv : co l i ∈ seenL [] l := (seenL_mem _ _ _).mpr (.inr (co_mem hi))
  have hg : posOf l (co l i) ∈ blocksOf l := by unfold blocksOf; exact List.mem_map.mpr ⟨_, hv, rfl⟩
  have one : ∀ k, k < l.length → co l k = co l i → Conn (GE (blocksOf l)) (co (posOf l (co l i)) 0).toNat k := fun k hk ek => by
    have hm : (k : Int) ∈ posOf l (co l i) := mem_posOf.mpr ⟨k, rfl, hk, ek⟩
    cases ep : posOf l (co l i) with
    | nil => rw [ep] at hm; cases hm
    | cons h t =>
      rw [ep] at hm
      rcases List.mem_cons.mp hm with z | z
      · show Conn _ h.toNat k
        rw [← z]
        exact .rf _
      · exact .ed ⟨posOf l (co l i), hg, (k : Int), by rw [ep]; exact z, by rw [ep], rfl⟩
  exact (one i hi rfl).sy.tr (one j hj e.symm)
theorem blocks_gbd (l : List Int) : GBd l.length (blocksOf l) := fun g hg => ⟨blocks_ne g hg, fun p hp => by
  unfold blocksOf at hg
  obtain ⟨v, hv, rfl⟩ := List.mem_map.mp hg
  obtain ⟨a, ea, la, va⟩ := mem_posOf.mp hp
  omega⟩
theorem uj_mem {l : List Int} {x y : Nat} (hx : x < l.length) : ∀ v ∈ uj l x y, v ∈ l := fun v hv => by
  unfold uj at hv
  obtain ⟨c, hc, rfl⟩ := List.mem_map.mp hv
  split
  · exact co_mem hx
  · exact hc
theorem ujB_mem {l : List Int} {b : List Int} (h0 : (co b 0).toNat < l.length) : (ujB l b).length = l.length ∧ ∀ v ∈ ujB l b, v ∈ l := by
  unfold ujB
  generalize b.drop 1 = t
  generalize (co b 0).toNat = x at h0
  revert l
  induction t with
  | nil => exact fun h => ⟨rfl, fun v h => h⟩
  | cons p t ih =>
    intro l h0
    obtain ⟨a, b⟩ := ih (l := uj l x p.toNat) (by rw [uj_len]; exact h0)
    exact ⟨a.trans (uj_len _ _ _), fun v hv => uj_mem h0 v (b v hv)⟩
theorem pcs_mem {N : Nat} {gs : List (List Int)} (hb : GBd N gs) : ∀ v ∈ pcs N gs, 0 ≤ v ∧ v < (N : Int) := by
  have run : ∀ (gs : List (List Int)) (l : List Int), GBd N gs → l.length = N → ∀ v ∈ ujs l gs, v ∈ l := by
    intro gs
    induction gs with
    | nil => exact fun l _ _ v h => h
    | cons g gs ih =>
      intro l hb hl v hv
      obtain ⟨a, b⟩ := ujB_mem (l := l) (b := g) (by rw [hl]; exact hb.head List.mem_cons_self)
      exact b v (ih (ujB l g) (fun x hx => hb x (List.mem_cons_of_mem _ hx)) (a.trans hl) v hv)
  exact fun v hv => mem_ixs.mp (run gs (ixs N) hb (ixs_len' N) v hv)

/-! ### a list or a tuple -/
def SqA (K : PySem.W.Frag) (H : Hp) (a : Addr) (xs : List V) : Prop := SqL K H a xs ∨ SqT K H a xs
def iSeqA (K : PySem.W.Frag) (te : TE) : TI := fun σ H R => te σ H fun x H1 => ∃ a xs, x = .ref a ∧ ((SqL K H1 a xs ∧ R (Itl K a) H1) ∨ (SqT K H1 a xs ∧ R (Itt K a) H1))
theorem pi_ltK {X : Cx} {K : PySem.W.Frag} {tg e : Expr} {te : TE} (hK : X.K = K) (he : PE X e te) : PI X tg e (iSeqA K te) := by
  subst hK
  refine ⟨fun pins s σ H R I h => ?_⟩
  refine thn (he.run pins s σ H _ I h) fun v s1 ⟨x, H1, I1, r1, a, xs, ex, q⟩ => ?_
  subst ex
  have r1' : v = .ref a := r1
  subst r1'
  have fp : ∀ {b : Addr}, b ∈ [s1.heap.objs.size] → _ := fun {b} hb => (by simpa using hb : b = s1.heap.objs.size)
  rcases q with ⟨sq, q⟩ | ⟨sq, q⟩
  · obtain ⟨its, rv, p, _⟩ := I1.list sq
    exact wpAny_pyIter_list p.isList ⟨s1.heap.objs.size, [s1.heap.objs.size], _, _, H1, rfl, I1.kept (t' := s1.toks) fun b o e => Heap.get?_push_of_some _ e, turn_list a _, ⟨_, Heap.get?_push_size _ rfl, rfl, rfl⟩, fun b hb => by rw [fp hb]; exact I1.fpOk (Nat.le_refl _) (I1.hok.fresh (Nat.le_refl _)), q⟩
  · obtain ⟨its, rv, p, _⟩ := I1.tuple sq
    exact wpAny_pyIter_tuple (show s1.heap.IsTuple a its.toArray from p) ⟨s1.heap.objs.size, [s1.heap.objs.size], _, _, H1, rfl, I1.kept (t' := s1.toks) fun b o e => Heap.get?_push_of_some _ e, turn_tuple a _, ⟨_, Heap.get?_push_size _ rfl, rfl, rfl⟩, fun b hb => by rw [fp hb]; exact I1.fpOk (Nat.le_refl _) (I1.hok.fresh (Nat.le_refl _)), q⟩
theorem pi_lt {X : Cx} {tg e : Expr} {te : TE} (he : PE X e te) : PI X tg e (iSeqA X.K te) := pi_ltK rfl he
theorem for_seq {K : PySem.W.Frag} {a : Addr} {xs : List V} {g : TG} {tb : TS} {D : Ends} {σ : L2.St} {H : Hp} (hq : SqA K H a xs) (Pv : Nat → L2.St → Hp → Prop) (h0 : Pv 0 σ H) (hk : ∀ i σ' H', Pv i σ' H' → (SqL K H a xs → SqL K H' a xs) ∧ (SqT K H a xs → SqT K H' a xs))
    (hs : ∀ i x σ H, xs[i]? = some x → Pv i σ H → g x σ H fun σ2 H2 => tb { D with nx := Pv (i + 1), ct := Pv (i + 1), bk := D.nx } σ2 H2) (hd : ∀ σ H, Pv xs.length σ H → D.nx σ H) :
    (SqL K H a xs ∧ ∃ W : Nat → Nat → L2.St → Hp → Prop, (∃ m, W 0 m σ H) ∧ ∀ i m σ H, W i m σ H →
      ((Itl K a).stop i H ∧ D.nx σ H) ∨ ((Itl K a).go i H ∧ ∃ N : L2.St → Hp → Prop, (∀ σ' H', N σ' H' → ∃ m', m' < m ∧ W (i + 1) m' σ' H') ∧ ∀ x H', (Itl K a).yld i H x H' → g x σ H' fun σ2 H2 => tb { D with nx := N, ct := N, bk := D.nx } σ2 H2)) ∨
    (SqT K H a xs ∧ ∃ W : Nat → Nat → L2.St → Hp → Prop, (∃ m, W 0 m σ H) ∧ ∀ i m σ H, W i m σ H →
      ((Itt K a).stop i H ∧ D.nx σ H) ∨ ((Itt K a).go i H ∧ ∃ N : L2.St → Hp → Prop, (∀ σ' H', N σ' H' → ∃ m', m' < m ∧ W (i + 1) m' σ' H') ∧ ∀ x H', (Itt K a).yld i H x H' → g x σ H' fun σ2 H2 => tb { D with nx := N, ct := N, bk := D.nx } σ2 H2)) := by
  rcases hq with hq | hq
  · exact .inl ⟨hq, for_list Pv h0 (fun i σ' H' _ p => (hk i σ' H' p).1 hq) hs hd⟩
  · exact .inr ⟨hq, for_it walk_tup Pv h0 (fun i σ' H' _ p => (hk i σ' H' p).2 hq) (fun i x σ H1 H2 hi p ⟨e, hx⟩ => by subst e; exact hs i x σ _ hx p) hd⟩
def rSlSA (K : PySem.W.Frag) : V → Option Int → Option Int → Hp → VK → Prop := fun x lo hi H Q => ∃ a xs, x = .ref a ∧ SqA K H a xs ∧ ¬ (HT.sIx xs.length 0 lo = 0 ∧ HT.sIx xs.length xs.length hi = xs.length) ∧
  ∀ p H', Same H H' → H p = none → SqA K H' p (cutV xs lo hi) → Q (.ref p) H'
theorem sl_seqA {X : Cx} : SlR X (rSlSA X.K) := by
  intro pins s σ H x v vl vu lo hi sl Q I rx hs pl pu h
  obtain ⟨a, xs, rfl, hq, nw, q⟩ := h
  rcases hq with hq | hq
  · exact sl_list pins s σ H (.ref a) v vl vu lo hi sl Q I rx hs pl pu ⟨a, xs, rfl, hq, fun p np => q p _ (same_upd np) np (.inl (.inl (.inl upd_same)))⟩
  · exact sl_tupA pins s σ H (.ref a) v vl vu lo hi sl Q I rx hs pl pu ⟨a, xs, rfl, hq, fun z => absurd z nw, fun _ p np => q p _ (same_upd np) np (.inr (.inl (.inl upd_same)))⟩
def rIxSA (K : PySem.W.Frag) : R2 := fun x y H Q => ∃ a xs j v, x = .ref a ∧ y = .int j ∧ SqA K H a xs ∧ atI xs j = some v ∧ Q v H
theorem ix_seqA {X : Cx} : IxR X (rIxSA X.K) := by
  intro value slice pins s σ H x y v u Q I rx ry h hs
  obtain ⟨a, xs, j, z, rfl, rfl, hq, e, q⟩ := h
  rcases hq with hq | hq
  · exact ix_list value slice pins s σ H (.ref a) (.int j) v u Q I rx ry ⟨a, xs, j, z, rfl, rfl, hq, e, q⟩ hs
  · exact ix_tup value slice pins s σ H (.ref a) (.int j) v u Q I rx ry ⟨a, xs, j, z, rfl, rfl, hq, e, q⟩ hs
theorem SqA.same {K : PySem.W.Frag} {H H' : Hp} {a : Addr} {xs : List V} (s : Same H H') (h : SqA K H a xs) : SqA K H' a xs := h.elim (fun h => .inl (sqL_same s h)) fun h => .inr (sqT_same s h)
theorem SqA.butN {K : PySem.W.Frag} {H H' : Hp} {r a : Addr} {xs : List V} (n : a ≠ r) (s : SameBut r H H') (h : SqA K H a xs) : SqA K H' a xs := by
  rcases h with ((h | ⟨o, h⟩) | h) | h
  · exact .inl (.inl (.inl (s _ _ n h)))
  · exact .inl (.inl (.inr ⟨o, s _ _ n h⟩))
  · exact .inl (.inr h)
  · exact .inr (sqT_but s n h)
theorem same_butD {H H3 H' : Hp} {D : Addr} (s : Same H H3) (b : SameBut D H3 H') (n : H D = none) : Same H H' := fun a o e => b a o (ne_of_none e n) (s a o e)

section
variable {P : Program} {w : World} {K : PySem.W.Frag} {mg : Str → Option Value} {base : Heap}
/-! ### _root, piece_marks -/
/-- parents, and the root of each -/
def Frst (N : Nat) (par r : List Int) : Prop := par.length = N ∧ r.length = N ∧ ∃ d : Nat → Nat, ∀ x, x < N → (0 ≤ co par x ∧ co par x < (N : Int)) ∧ ((co par x = (x : Int) ∧ co r x = (x : Int)) ∨ (co par x ≠ (x : Int) ∧ d (co par x).toNat < d x ∧ co r x = co r (co par x).toNat))
theorem Frst.root {N : Nat} {par r : List Int} (h : Frst N par r) {x : Nat} (hx : x < N) : ∃ y : Nat, co r x = (y : Int) ∧ y < N ∧ co par y = (y : Int) ∧ co r y = (y : Int) := by
  obtain ⟨_, _, d, h⟩ := h
  have run : ∀ n x, x < N → d x ≤ n → ∃ y : Nat, co r x = (y : Int) ∧ y < N ∧ co par y = (y : Int) ∧ co r y = (y : Int) := by
    intro n
    induction n with
    | zero =>
      intro x hx hd
      obtain ⟨_, ⟨e1, e2⟩ | ⟨_, c, _⟩⟩ := h x hx
      · exact ⟨x, e2, hx, e1, e2⟩
      · omega
    | succ n ih =>
      intro x hx hd
      obtain ⟨bd, ⟨e1, e2⟩ | ⟨_, c, e⟩⟩ := h x hx
      · exact ⟨x, e2, hx, e1, e2⟩
      · obtain ⟨y, ey, r⟩ := ih (co par x).toNat (by omega) (by omega)
        exact ⟨y, e.trans ey, r⟩
  exact run (d x) x hx (Nat.le_refl _)
theorem frst_start (N : Nat) : Frst N (ixs N) (ixs N) := ⟨ixs_len' N, ixs_len' N, fun _ => 0, fun x hx => by rw [co_ixs hx]; exact ⟨by omega, .inl ⟨rfl, rfl⟩⟩⟩
theorem co_setI {l : List Int} {i : Nat} {v : Int} (hi : i < l.length) (j : Nat) : co (l.set i v) j = if j = i then v else co l j := by
  unfold co
  rw [List.getD_eq_getElem?_getD, List.getD_eq_getElem?_getD, List.getElem?_set]
  by_cases c : i = j
  · rw [if_pos c, if_pos c.symm, if_pos hi]
    rfl
  · rw [if_neg c, if_neg fun z => c z.symm]
theorem Frst.join {N : Nat} {par r : List Int} (h : Frst N par r) {x y : Nat} (hx : x < N) (hy : y < N) : Frst N (par.set (co r y).toNat (co r x)) (uj r x y) := by
  obtain ⟨lo, elo, llo, plo, rlo⟩ := h.root hx
  obtain ⟨hi, ehi, lhi, phi, rhi⟩ := h.root hy
  obtain ⟨l1, l2, d, h⟩ := h
  refine ⟨by rw [List.length_set]; exact l1, by rw [uj_len]; exact l2, ?_⟩
  rw [ehi, elo, show ((hi : Int)).toNat = hi from rfl]
  have cp : ∀ z, co (par.set hi (lo : Int)) z = if z = hi then (lo : Int) else co par z := co_setI (by omega)
  have cu : ∀ z, z < N → co (uj r x y) z = if co r z = (hi : Int) then (lo : Int) else co r z := fun z hz => by
    unfold uj
    rw [co_map_lt (by omega), elo, ehi]
  by_cases same : lo = hi
  · subst same
    refine ⟨d, fun z hz => ?_⟩
    have e1 : co (par.set lo (lo : Int)) z = co par z := by
      rw [cp z]
      by_cases c : z = lo
      · rw [if_pos c, c, plo]
      · rw [if_neg c]
    have e2 : ∀ z, z < N → co (uj r x y) z = co r z := fun z hz => by
      rw [cu z hz]
      by_cases c : co r z = (lo : Int)
      · rw [if_pos c, c]
      · rw [if_neg c]
    have hz' := h z hz
    have bd : (co par z).toNat < N := by have := hz'.1; omega
    rw [e1, e2 z hz, e2 _ bd]
    exact hz'
  · refine ⟨fun z => if co r z = (hi : Int) then d z + d lo + 1 else d z, fun z hz => ?_⟩
    have hz' := h z hz
    have bd : (co par z).toNat < N := by have := hz'.1; omega
    rw [cp z, cu z hz]
    by_cases c : z = hi
    · subst c
      rw [if_pos rfl, if_pos rhi]
      refine ⟨by omega, .inr ⟨by omega, ?_, ?_⟩⟩
      · show (if co r (lo : Int).toNat = (z : Int) then _ else _) < (if co r z = (z : Int) then _ else _)
        rw [show ((lo : Int)).toNat = lo from rfl, rlo, if_neg (by omega), if_pos rhi]
        omega
      · rw [show ((lo : Int)).toNat = lo from rfl, cu lo llo, rlo, if_neg (by omega)]
    · rw [if_neg c]
      refine ⟨hz'.1, ?_⟩
      rcases hz'.2 with ⟨e1, e2⟩ | ⟨ne, e1, e2⟩
      · refine .inl ⟨e1, ?_⟩
        rw [if_neg (by rw [e2]; omega), e2]
      · refine .inr ⟨ne, ?_, ?_⟩
        · show (if co r (co par z).toNat = (hi : Int) then _ else _) < (if co r z = (hi : Int) then _ else _)
          rw [← e2]
          split <;> omega
        · rw [cu _ bd, ← e2]
def spRoot (K : PySem.W.Frag) : Sp := fun vs H Q _ => ∃ (D : Addr) (par r : List Int) (N x : Nat), vs = [.ref D, .int (x : Int)] ∧ SqL K H D (par.map V.int) ∧ Frst N par r ∧ x < N ∧ Q (.int (co r x)) H
theorem ok_root_ {f : Addr} {fd : FuncData} (F : Fun K "_root" "_root" s_root_ f fd) : FnOk P w K mg base CX0 1 f fd ["parents", "point"] (spRoot K) := by
  refine F.ok sc_root_ (fun vs H Q E h => ?_) (fun cdv A outer s H vs Q E hr h => ?_)
  · obtain ⟨D, par, r, N, x, rfl, _⟩ := h
    rfl
  · obtain ⟨D, par, r, N, x, rfl, hD, fr, hx, q⟩ := h
    refine ⟨_, (pss_cons (ps_set (i := 2) sc_root_.nd rfl (.inl rfl) (pv 1))
  (pss_cons (ps_while PassesOwn.never (pt_cmpR op_ne (pe_ix ix_list (pv 0) (pv 2) (fun _ _ => rfl)) (pv 2) (nomark _)) (pss_one (ps_set (i := 2) sc_root_.nd rfl (.inl rfl) (pe_ix ix_list (pv 0) (pv 2) (fun _ _ => rfl)))))
  (pss_one (ps_ret (pv 2))))), ?_⟩
    obtain ⟨l1, l2, d, hf⟩ := fr
    refine ⟨_, rfl, ⟨fun m σ H' => ∃ k : Nat, σ = [some (.ref D), some (.int (x : Int)), some (.int (k : Int))] ∧ H' = H ∧ k < N ∧ co r k = co r x ∧ m = d k, ⟨_, x, rfl, rfl, hx, rfl, rfl⟩, ?_⟩⟩
    rintro m σ H' ⟨k, rfl, rfl, hk, ek, rfl⟩
    have hz := hf k hk
    refine ⟨_, rfl, _, rfl, D, _, _, _, rfl, rfl, hD, at_co (by omega), _, rfl, rfl, _, rfl, ?_⟩
    rcases hz.2 with ⟨e1, e2⟩ | ⟨ne, e1, e2⟩
    · rw [e1, decide_eq_true rfl]
      refine iteF ⟨_, rfl, ?_⟩
      rw [← e2, ek]
      exact q
    · rw [decide_eq_false fun z => ne (V.int.inj z)]
      have ep : co par k = (((co par k).toNat : Nat) : Int) := by omega
      exact iteT ⟨_, fun _ _ n => n, _, rfl, _, rfl, D, _, _, _, rfl, rfl, hD, at_co (by omega), _, e1, (co par k).toNat, by rw [← ep]; rfl, rfl, by omega, by rw [← e2, ek], rfl⟩
/-- a group: a list or a tuple of points -/
def Grp (K : PySem.W.Frag) (H : Hp) (v : V) (b : List Int) : Prop := ∃ a, v = .ref a ∧ SqA K H a (b.map V.int)
theorem Grp.same {H H' : Hp} {v : V} {b : List Int} (s : Same H H') (h : Grp K H v b) : Grp K H' v b := by
  obtain ⟨a, e, h⟩ := h
  exact ⟨a, e, h.elim (fun h => .inl (sqL_same s h)) fun h => .inr (sqT_same s h)⟩
theorem sqL_butN {H H' : Hp} {r a : Addr} {xs : List V} (n : a ≠ r) (s : SameBut r H H') (h : SqL K H a xs) : SqL K H' a xs := by
  rcases h with (h | ⟨o, h⟩) | h
  · exact .inl (.inl (s _ _ n h))
  · exact .inl (.inr ⟨o, s _ _ n h⟩)
  · exact .inr h
theorem paired_get {α β : Type} {F : α → β → Prop} : ∀ {l : List α} {m : List β}, Paired F l m → ∀ {i : Nat} {x : α}, l[i]? = some x → ∃ y, m[i]? = some y ∧ F x y
  | _, _, .nil, i, x, h => nomatch h
  | _, _, .cons f _, 0, x, h => by
    obtain rfl := Option.some.inj h
    exact ⟨_, rfl, f⟩
  | _, _, .cons _ t, i + 1, x, h => paired_get t (i := i) h
theorem cut1 {h0 : Int} (tl : List Int) : ¬ (HT.sIx (h0 :: tl).length 0 (some 1) = 0 ∧ HT.sIx (h0 :: tl).length (h0 :: tl).length none = (h0 :: tl).length) := by
  rintro ⟨h, _⟩
  simp [HT.sIx] at h
def spPieceMarks (K : PySem.W.Frag) : Sp := fun vs H Q _ => ∃ (N : Nat) (a : Addr) (gs : List V) (bs : List (List Int)), vs = [.int (N : Int), .ref a] ∧ SqL K H a gs ∧ Paired (Grp K H) gs bs ∧ GBd N bs ∧ N ≤ 1000 ∧
  ∀ D H', Same H H' → H D = none → H' D = some (.lst ((pcs N bs).map V.int)) → Q (.ref D) H'
theorem ok_piece_marks {f a_root_ : Addr} {fd fd_root_ : FuncData} (F : Fun K "piece_marks" "piece_marks" s_piece_marks f fd) (z_list : mg "list" = none) (z_range : mg "range" = none)
    (G_root_ : FnOk P w K mg base CX0 1 a_root_ fd_root_ ["parents", "point"] (spRoot K)) (g_root_ : mg "_root" = some (.ref a_root_)) (k_root_ : PySem.W.keepIn K (.ref a_root_) = true) (b_root_ : Binds K fd_root_ ["parents", "point"] []) :
    FnOk P w K mg base CX0 2 f fd ["size", "groups"] (spPieceMarks K) := by
  refine F.ok sc_piece_marks (fun vs H Q E h => ?_) (fun cdv A outer s H vs Q E hr h => ?_)
  · obtain ⟨N, a, gs, bs, rfl, _⟩ := h
    rfl
  · obtain ⟨N, a, gs, bs, rfl, ha, pr, gb, hN, q⟩ := h
    refine ⟨_, (pss_cons (ps_set (i := 2) sc_piece_marks.nd rfl (.inr rfl) (pe_listRg rfl rfl z_list (prg_1 rfl z_range (pv 0))))
  (pss_cons (ps_for PassesOwn.never rfl (pi_list (pv 1)) (pg_name (i := 3) sc_piece_marks.nd rfl (.inl rfl)) (pss_one (ps_for PassesOwn.never rfl (pi_lt (pe_slice sl_seqA (pv 3) (po_some pe_int) po_none)) (pg_name (i := 4) sc_piece_marks.nd rfl (.inl rfl)) (pss_cons (ps_set (i := 5) sc_piece_marks.nd rfl (.inl rfl) (pe_call G_root_ (hr.mono (by decide)) rfl g_root_ k_root_ b_root_ .nil pass0 (pa_cons (pv 2) (pa_cons (pe_ix ix_seqA (pv 3) pe_int (fun _ _ => rfl)) pa_nil))))
  (pss_one (ps_asg (pv 5) (pg_sub (pv 2) (pe_call G_root_ (hr.mono (by decide)) rfl g_root_ k_root_ b_root_ .nil pass0 (pa_cons (pv 2) (pa_cons (pv 4) pa_nil))) set_list)))))))
  (pss_one (ps_ret (pe_lc (own := [("point", 4)]) rfl sc_piece_marks.nd (pi_range1 rfl z_range (pa_cons (pv 0) pa_nil)) (blkOk_by (N := ["size", "groups", "parents", "group", "point", "low"]) (sc := defScope s_piece_marks) (by first | decide +kernel | rfl)) (fun _ _ _ _ _ => (pg_name (i := 4) sc_piece_marks.nd rfl (.inl rfl))) (fun _ _ _ _ _ => pts_nil) (fun _ _ _ _ _ => (pe_call G_root_ (hr.mono (by decide)) rfl g_root_ k_root_ b_root_ .nil pass0 (pa_cons (pv 2) (pa_cons (pv 4) pa_nil))))))))), ?_⟩
    have szl : 20000 ≤ sizeLine := by decide
    refine ⟨_, rfl, (N : Int), rfl, RgOk.of_le (by omega) (by omega) (by omega) (by omega), fun D nD => ?_⟩
    have s1 := same_upd (o := .lst (rgV 0 (N : Int))) nD
    have hD1 : upd H D (.lst (rgV 0 (N : Int))) D = some (.lst ((ixs N).map V.int)) := by rw [upd_same, rgV_ixs (by omega)]; rfl
    revert s1 hD1
    generalize upd H D (.lst (rgV 0 (N : Int))) = H1
    intro s1 hD1
    refine ⟨_, rfl, a, rfl, ⟨_, sqL_same s1 ha⟩, for_list (xs := gs) (fun i σ H' => ∃ v3 v4 v5 par, σ = [some (.int (N : Int)), some (.ref a), some (.ref D), v3, v4, v5] ∧ Same H H' ∧ H' D = some (.lst (par.map V.int)) ∧ Frst N par (ujs (ixs N) (bs.take i)))
      ⟨none, none, none, ixs N, rfl, s1, hD1, frst_start N⟩ (fun i σ H' _ ⟨_, _, _, _, _, s', _⟩ => sqL_same s' ha) (fun i x σ H2 hx hP => ?_) (fun σ H2 hP => ?_)⟩
    · obtain ⟨v3, v4, v5, par, rfl, s2, hD2, fr⟩ := hP
      obtain ⟨b, eb, hg⟩ := paired_get pr hx
      obtain ⟨g, rfl, hg⟩ := hg.same s2
      have mb := List.mem_of_getElem? eb
      obtain ⟨ne, hb⟩ := gb b mb
      have hi : i < bs.length := (List.getElem?_eq_some_iff.mp eb).1
      obtain ⟨h0, tl, rfl⟩ : ∃ h0 tl, b = h0 :: tl := by
        cases b with
        | nil => exact absurd rfl ne
        | cons h0 tl => exact ⟨h0, tl, rfl⟩
      have hgH : SqA K H2 g ((h0 :: tl).map V.int) := ‹SqA K H2 g _›
      refine ⟨_, rfl, _, rfl, g, _, rfl, hgH, (by rw [List.length_map]; exact cut1 tl), fun p H3 s3 np hp => ?_⟩
      rw [cutI_from (by omega) (by rw [List.length_cons]; omega), show (h0 :: tl).drop (1 : Int).toNat = tl from rfl] at hp
      have hD3 := s3 _ _ hD2
      have npD : p ≠ D := fun z => by rw [z, hD2] at np; cases np
      have s03 := Same.trans s2 s3
      have hh := hb h0 List.mem_cons_self
      refine ⟨_, _, rfl, for_seq hp (fun i2 σ H' => ∃ v4 v5 par, σ = [some (.int (N : Int)), some (.ref a), some (.ref D), some (.ref g), v4, v5] ∧ SameBut D H3 H' ∧ H' D = some (.lst (par.map V.int)) ∧ Frst N par ((tl.take i2).foldl (fun l p => uj l h0.toNat p.toNat) (ujs (ixs N) (bs.take i))))
        ⟨v4, v5, par, rfl, SameBut.refl D H3, hD3, fr⟩ (fun i2 σ' H' ⟨_, _, _, _, sb, _⟩ => ⟨fun h => sqL_butN npD sb h, fun h => sqT_but sb npD h⟩) (fun i2 y σ H4 hy hP => ?_) (fun σ H4 hP => ?_)⟩
      · obtain ⟨v4, v5, par, rfl, sb, hD4, fr⟩ := hP
        have hi2 : i2 < tl.length := by have := (List.getElem?_eq_some_iff.mp hy).1; rwa [List.length_map] at this
        have ez : (tl.map V.int)[i2]? = some (.int (co tl i2)) := by rw [List.getElem?_map, co_get hi2]; rfl
        obtain rfl : V.int (co tl i2) = y := Option.some.inj (ez.symm.trans hy)
        have ht := hb (co tl i2) (List.mem_cons_of_mem _ (co_mem hi2))
        have s04 := same_butD s03 sb nD
        have hg4 := hg.same s04
        obtain ⟨g', eg, hg4⟩ := hg4
        obtain rfl := V.ref.inj eg
        have eh : h0 = ((h0.toNat : Nat) : Int) := by omega
        have et : co tl i2 = (((co tl i2).toNat : Nat) : Int) := by omega
        refine ⟨_, rfl, _, rfl, _, _, _, _, rfl, rfl, hg4, atI_nat (j := 0) rfl, D, par, _, N, h0.toNat, by rw [← eh]; rfl, .inl (.inl hD4), fr, by omega, ?_⟩
        generalize er : (tl.take i2).foldl (fun l p => uj l h0.toNat p.toNat) (ujs (ixs N) (bs.take i)) = r at fr
        obtain ⟨lo, elo, llo, _⟩ := fr.root (x := h0.toNat) (by omega)
        obtain ⟨hi, ehi, lhi, _⟩ := fr.root (x := (co tl i2).toNat) (by omega)
        have lp := fr.1
        refine ⟨_, rfl, _, rfl, _, rfl, _, rfl, D, par, r, N, (co tl i2).toNat, by rw [← et]; rfl, .inl (.inl hD4), fr, by omega, D, _, _, hi, rfl, by rw [ehi], hD4, ixN_nat (by rw [List.length_map]; omega), ?_⟩
        have fj := fr.join (x := h0.toNat) (y := (co tl i2).toNat) (by omega) (by omega)
        rw [ehi, show ((hi : Int)).toNat = hi from rfl] at fj
        refine ⟨_, _, _, rfl, sb.trans SameBut.upd, by rw [upd_same, map_set], ?_⟩
        rw [List.take_succ, co_get hi2, List.foldl_append, er]
        exact fj
      · obtain ⟨v4, v5, par, rfl, sb, hD4, fr⟩ := hP
        rw [List.length_map, List.take_length] at fr
        refine ⟨_, v4, v5, par, rfl, same_butD s03 sb nD, hD4, ?_⟩
        rw [List.take_succ, eb]
        unfold ujs
        rw [List.foldl_append]
        exact fr
    · obtain ⟨v3, v4, v5, par, rfl, s2, hD2, fr⟩ := hP
      have e : ujs (ixs N) (bs.take gs.length) = pcs N bs := by
        rw [pr.length, List.take_length]
        rfl
      rw [e] at fr
      refine ⟨_, rfl, (N : Int), rfl, by omega, by omega, fun Z nZ => ?_⟩
      have lp := fr.2.1
      have hk : ∀ {H5 : Hp}, SameBut Z H2 H5 → Same H2 H5 := fun sb b o e => sb _ _ (ne_of_none e nZ) e
      rw [show (N : Int).toNat = N from rfl]
      refine lc_range (lo := 0) (n := N) (fun i H5 => SameBut Z H2 H5 ∧ H5 Z = some (.lst (((pcs N bs).take i).map V.int))) ⟨SameBut.upd, upd_same⟩ (fun i H5 hi hP => ?_) (fun H5 hP => ?_)
      · obtain ⟨sb, hZ⟩ := hP
        refine ⟨rfl, ?_⟩
        refine ⟨_, rfl, _, rfl, D, par, _, N, i, by rw [Int.zero_add]; rfl, .inl (.inl (hk sb _ _ hD2)), fr, hi, _, hZ, by rw [List.length_map, List.length_take]; omega, sb.trans SameBut.upd, ?_⟩
        rw [upd_same, take_snoc (by omega), List.map_append]
        rfl
      · obtain ⟨sb, hZ⟩ := hP
        rw [List.take_of_length_le (Nat.le_of_eq lp)] at hZ
        exact q Z H5 (Same.trans s2 (hk sb)) (none_back s2 nZ) hZ
end
section
variable {P : Program} {w : World} {K : PySem.W.Frag} {mg : Str → Option Value} {base : Heap}
/-! ### hidden_count -/
def spHidden (K : PySem.W.Frag) : Sp := fun vs H Q _ => ∃ (a b : Addr) (ms sh : List Int), vs = [.ref a, .ref b] ∧ SqL K H a (ms.map V.int) ∧ SqL K H b (sh.map V.int) ∧ ms.length < 32 ∧ (∀ k ∈ ms, 0 ≤ k ∧ k < 32) ∧ sh.length < 64 ∧ Q (.int (hid ms sh : Nat)) H
theorem ok_hidden_count {f : Addr} {fd : FuncData} (F : Fun K "hidden_count" "hidden_count" s_hidden_count f fd) (z_len : mg "len" = none) (z_set : mg "set" = none) : FnOk P w K mg base CX0 1 f fd ["marks", "shown"] (spHidden K) := by
  refine F.ok sc_hidden_count (fun vs H Q E h => ?_) (fun cdv A outer s H vs Q E hr h => ?_)
  · obtain ⟨a, b, ms, sh, rfl, _⟩ := h
    rfl
  · obtain ⟨a, b, ms, sh, rfl, ha, hb, l1, b1, l2, q⟩ := h
    refine ⟨_, (pss_one (ps_ret (SD.pe_lenSub rfl rfl z_len rfl z_set (pv 0) (pv 1)))), ?_⟩
    refine ⟨_, rfl, a, ms, rfl, ha, l1, b1, _, rfl, b, sh, rfl, hb, l2, fun L nd mem => ?_⟩
    rw [hid_is nd mem]
    exact q
end

section
variable {P : Program} {w : World} {K : PySem.W.Frag} {mg : Str → Option Value} {base : Heap}
/-! ### put -/
def putG (n : Nat) (l1 l2 : List Int) : List (List Int) := blocksOf l1 ++ (blocksOf l2).map fun b => b.map fun p => (n : Int) + p
def putM (n m q : Nat) (l1 l2 : List Int) : List Int := pcs (n + m + q) (putG n l1 l2)
def putS (n m q : Nat) (l1 l2 : List Int) : List Int := (putM n m q l1 l2).take n ++ (putM n m q l1 l2).drop (n + m)
def spPut (CD CB CT : Addr) : Sp := fun vs H Q E => ∃ (v u : V) (n m : Int) (bs : List (List Int)) (k q : Int) (cs : List (List Int)), vs = [v, u] ∧ DGv H v n m bs ∧ DgOk n m bs ∧ DGv H u k q cs ∧ DgOk k q cs ∧
  ((¬ IsDg n m bs ∧ ∀ H', Same H H' → E (.ref CD) none H') ∨ ∃ (n' m' : Nat) (l1 : List Int), n = n' ∧ m = m' ∧ bs = blocksOf l1 ∧ siz n m = true ∧ (l1.length : Int) = n + m ∧
    ((¬ IsDg k q cs ∧ ∀ H', Same H H' → E (.ref CD) none H') ∨ ∃ (k' q' : Nat) (l2 : List Int), k = k' ∧ q = q' ∧ cs = blocksOf l2 ∧ siz k q = true ∧ (l2.length : Int) = k + q ∧
      (m' ≠ k' → ∀ H', Same H H' → E (.ref CB) none H') ∧ (m' = k' → 12 < n' + q' → ∀ H', Same H H' → E (.ref CT) none H') ∧
      (m' = k' → n' + q' ≤ 12 → ∀ (t : Addr) (v' : V) (H' : Hp), Same H H' → H' t = some (.tup [.int (hid (putM n' m' q' l1 l2) (putS n' m' q' l1 l2) : Nat), v']) → DgAt H' v' n' q' (putS n' m' q' l1 l2) → Q (.ref t) H')))
/-- a list of points, elsewhere -/
def LQ (Z : Addr) (H : Hp) (v : V) (b : List Int) : Prop := ∃ t, v = .ref t ∧ t ≠ Z ∧ H t = some (.lst (b.map V.int))
theorem putG_bd {n m q : Nat} {l1 l2 : List Int} (h1 : l1.length = n + m) (h2 : l2.length = m + q) : GBd (n + m + q) (putG n l1 l2) := fun g hg => by
  rcases List.mem_append.mp hg with hg | hg
  · have := blocks_gbd l1 g hg
    exact ⟨this.1, fun p hp => by have := this.2 p hp; omega⟩
  · obtain ⟨b, hb, rfl⟩ := List.mem_map.mp hg
    have := blocks_gbd l2 b hb
    refine ⟨fun z => this.1 (List.map_eq_nil_iff.mp z), fun p hp => ?_⟩
    obtain ⟨x, hx, rfl⟩ := List.mem_map.mp hp
    have := this.2 x hx
    omega
theorem ok_put {f CD CB CT a_check_diagram a_piece_marks a_hidden_count a_from_labels : Addr} {tm_MOST_POINTS : Tok} {fd fd_check_diagram fd_piece_marks fd_hidden_count fd_from_labels : FuncData} (F : Fun K "put" "put" s_put f fd) (TB : ErrC K mg "BadNumber" CB) (TT0 : ErrC K mg "TooLarge" CT) (z_list : mg "list" = none) (m_MOST_POINTS : mg "MOST_POINTS" = some (.int 12 tm_MOST_POINTS))
    (G_check_diagram : FnOk P w K mg base (L2N.CX P w) 3 a_check_diagram fd_check_diagram ["diagram"] (spCheckDiagram CD)) (g_check_diagram : mg "check_diagram" = some (.ref a_check_diagram)) (k_check_diagram : PySem.W.keepIn K (.ref a_check_diagram) = true) (b_check_diagram : Binds K fd_check_diagram ["diagram"] [])
    (G_piece_marks : FnOk P w K mg base CX0 2 a_piece_marks fd_piece_marks ["size", "groups"] (spPieceMarks K)) (g_piece_marks : mg "piece_marks" = some (.ref a_piece_marks)) (k_piece_marks : PySem.W.keepIn K (.ref a_piece_marks) = true) (b_piece_marks : Binds K fd_piece_marks ["size", "groups"] [])
    (G_hidden_count : FnOk P w K mg base CX0 1 a_hidden_count fd_hidden_count ["marks", "shown"] (spHidden K)) (g_hidden_count : mg "hidden_count" = some (.ref a_hidden_count)) (k_hidden_count : PySem.W.keepIn K (.ref a_hidden_count) = true) (b_hidden_count : Binds K fd_hidden_count ["marks", "shown"] [])
    (G_from_labels : FnOk P w K mg base (L2N.CX P w) 3 a_from_labels fd_from_labels ["n", "m", "marks"] (spFromLabels K CB)) (g_from_labels : mg "from_labels" = some (.ref a_from_labels)) (k_from_labels : PySem.W.keepIn K (.ref a_from_labels) = true) (b_from_labels : Binds K fd_from_labels ["n", "m", "marks"] []) :
    FnOk P w K mg base (L2N.CX P w) 4 f fd ["one", "other"] (spPut CD CB CT) := by
  obtain ⟨gc_BadNumber, x_BadNumber, kc_BadNumber, bc_BadNumber, tc_BadNumber⟩ := TB
  obtain ⟨gc_TooLarge, x_TooLarge, kc_TooLarge, bc_TooLarge, tc_TooLarge⟩ := TT0
  have r_MOST_POINTS : RelV (.int 12) (.int 12 tm_MOST_POINTS) := ⟨_, rfl⟩
  refine F.okXN sc_put (fun vs H Q E h => ?_) (fun cdv A outer s H vs Q E hr h => ?_)
  · obtain ⟨v, u, n, m, bs, k, q, cs, rfl, _⟩ := h
    rfl
  · obtain ⟨v, u, n, m, bs, k, q, cs, rfl, hv, hb, hu, hc, h⟩ := h
    refine ⟨_, (pss_cons (ps_expr (pe_call G_check_diagram (hr.mono (by decide)) rfl g_check_diagram k_check_diagram b_check_diagram .nil (L2N.passes_call (L2N.takes_of rfl rfl rfl rfl) (fun _ _ _ _ h => h)) (pa_cons (pv 0) pa_nil)))
  (pss_cons (ps_expr (pe_call G_check_diagram (hr.mono (by decide)) rfl g_check_diagram k_check_diagram b_check_diagram .nil (L2N.passes_call (L2N.takes_of rfl rfl rfl rfl) (fun _ _ _ _ h => h)) (pa_cons (pv 1) pa_nil)))
  (pss_cons (ps_asg (pv 0) (pg_tup rfl (pgs_cons (pg_name (i := 2) sc_put.nd rfl (.inr rfl)) (pgs_cons (pg_name (i := 3) sc_put.nd rfl (.inl rfl)) (pgs_cons (pg_name (i := 4) sc_put.nd rfl (.inl rfl)) pgs_nil)))))
  (pss_cons (ps_asg (pv 1) (pg_tup rfl (pgs_cons (pg_name (i := 5) sc_put.nd rfl (.inl rfl)) (pgs_cons (pg_name (i := 6) sc_put.nd rfl (.inl rfl)) (pgs_cons (pg_name (i := 7) sc_put.nd rfl (.inl rfl)) pgs_nil)))))
  (pss_cons (ps_if (pt_cmpR op_ne (pv 3) (pv 5) (nomark _)) (pss_one (L2N.ps_raise rfl (L2N.takes_of rfl rfl rfl rfl) (L2N.pmk_own PySem.F.excBase_ValueError x_BadNumber gc_BadNumber kc_BadNumber (raises_own bc_BadNumber tc_BadNumber) rfl))) pss_nil)
  (pss_cons (ps_if (pt_cmpR op_gt (pe_op op_add (pv 2) (pv 6)) (pe_glob rfl m_MOST_POINTS r_MOST_POINTS) (nomark _)) (pss_one (L2N.ps_raise rfl (L2N.takes_of rfl rfl rfl rfl) (L2N.pmk_own PySem.F.excBase_ValueError x_TooLarge gc_TooLarge kc_TooLarge (raises_own bc_TooLarge tc_TooLarge) rfl))) pss_nil)
  (pss_cons (ps_set (i := 8) sc_put.nd rfl (.inl rfl) (pe_op op_cat (pe_callTy call_list_of (by rfl) z_list boot_list (pa_cons (pv 4) pa_nil)) (pe_lc (own := [("block", 11)]) rfl sc_put.nd (pi_tup (pv 7)) (blkOk_by (N := ["one", "other", "n", "m", "upper", "k", "q", "lower", "groups", "marks", "shown", "block", "point"]) (sc := defScope s_put) (by first | decide +kernel | rfl)) (fun _ _ _ _ _ => (pg_name (i := 11) sc_put.nd rfl (.inl rfl))) (fun _ _ _ _ _ => pts_nil) (fun _ _ _ _ _ => (pe_lc (own := [("point", 12)]) rfl sc_put.nd (pi_tupK (K := K) rfl (pv 11)) (blkOk_by (N := ["one", "other", "n", "m", "upper", "k", "q", "lower", "groups", "marks", "shown", "block", "point"]) (by first | decide +kernel | rfl)) (fun _ _ _ _ _ => (pg_name (i := 12) sc_put.nd rfl (.inl rfl))) (fun _ _ _ _ _ => pts_nil) (fun _ _ _ _ _ => (pe_op op_add (pv 2) (pv 12))))))))
  (pss_cons (ps_set (i := 9) sc_put.nd rfl (.inl rfl) (pe_call G_piece_marks (hr.mono (by decide)) rfl g_piece_marks k_piece_marks b_piece_marks .nil pass0 (pa_cons (pe_op op_add (pe_op op_add (pv 2) (pv 3)) (pv 6)) (pa_cons (pv 8) pa_nil))))
  (pss_cons (ps_set (i := 10) sc_put.nd rfl (.inl rfl) (pe_op op_cat (pe_slice sl_list (pv 9) po_none (po_some (pv 2))) (pe_slice sl_list (pv 9) (po_some (pe_op op_add (pv 2) (pv 3))) po_none)))
  (pss_one (ps_ret (pe_tup (pa_cons (pe_call G_hidden_count (hr.mono (by decide)) rfl g_hidden_count k_hidden_count b_hidden_count .nil pass0 (pa_cons (pv 9) (pa_cons (pv 10) pa_nil))) (pa_cons (pe_call G_from_labels (hr.mono (by decide)) rfl g_from_labels k_from_labels b_from_labels .nil (L2N.passes_call (L2N.takes_of rfl rfl rfl rfl) (fun _ _ _ _ h => h)) (pa_cons (pv 2) (pa_cons (pv 6) (pa_cons (pv 10) pa_nil)))) pa_nil)))))))))))))), ?_⟩
    have szl : 20000 ≤ sizeLine := by decide
    rcases h with ⟨nd, e⟩ | ⟨n', m', l1, rfl, rfl, rfl, sz1, hl1, h⟩
    · exact ⟨_, rfl, v, n, m, bs, rfl, hv, hb, fun H1 s1 => ⟨fun dg => absurd dg nd, fun _ => e H1 s1⟩⟩
    refine ⟨_, rfl, v, _, _, _, rfl, hv, hb, fun H1 s1 => ⟨fun dg1 => ?_, fun nd => absurd (isDg_blocks sz1 hl1) nd⟩⟩
    rcases h with ⟨nd, e⟩ | ⟨k', q', l2, rfl, rfl, rfl, sz2, hl2, qB, qT, q⟩
    · exact ⟨_, rfl, u, k, q, cs, rfl, hu.same s1, hc, fun H2 s2 => ⟨fun dg => absurd dg nd, fun _ => e H2 (Same.trans s1 s2)⟩⟩
    refine ⟨_, rfl, u, _, _, _, rfl, hu.same s1, hc, fun H2 s2 => ⟨fun dg2 => ?_, fun nd => absurd (isDg_blocks sz2 hl2) nd⟩⟩
    have s02 := Same.trans s1 s2
    obtain ⟨t, vb, rfl, ht, tb, ts, rfl, htb, pr⟩ := DGv.same s02 hv
    obtain ⟨t', vb', rfl, ht', tb', ts', rfl, htb', pr'⟩ := DGv.same s02 hu
    have z1 := siz_iff.mp sz1
    have z2 := siz_iff.mp sz2
    refine ⟨_, rfl, t, _, rfl, .inl (.inl ht), rfl, _, _, rfl, _, _, rfl, _, _, rfl, rfl, ?_⟩
    refine ⟨_, rfl, t', _, rfl, .inl (.inl ht'), rfl, _, _, rfl, _, _, rfl, _, _, rfl, rfl, ?_⟩
    refine ⟨_, rfl, _, rfl, rfl, _, rfl, ?_⟩
    by_cases c : m' = k'
    · subst c
      refine ite_same ?_
      refine ⟨_, rfl, _, rfl, _, _, rfl, rfl, _, _, rfl, rfl, _, rfl, ?_⟩
      by_cases c2 : n' + q' ≤ 12
      · refine if_neg_of (by rw [decide_eq_true_eq]; omega) ?_
        have q := q rfl c2
        refine ⟨_, rfl, tb, ts, rfl, .inr (.inl (.inl htb)), fun Lb nLb => ?_⟩
        have s3 := same_upd (o := .lst ts) nLb
        have hLb : upd H2 Lb (.lst ts) Lb = some (.lst ts) := upd_same
        revert s3 hLb
        generalize upd H2 Lb (.lst ts) = H3
        intro s3 hLb
        have htb3 := s3 _ _ htb'
        refine ⟨_, rfl, tb', rfl, ⟨_, .inl (.inl htb3)⟩, fun Z nZ => ?_⟩
        have hk : ∀ {H5 : Hp}, SameBut Z H3 H5 → Same H3 H5 := fun sb b o e => sb _ _ (ne_of_none e nZ) e
        refine lc_tup (K := K) (xs := ts') (fun i H5 => SameBut Z H3 H5 ∧ ∃ es, H5 Z = some (.lst es) ∧ Paired (LQ Z H5) es (((blocksOf l2).take i).map fun b => b.map fun p => (n' : Int) + p)) ⟨SameBut.upd, [], upd_same, .nil⟩ (fun i H5 _ hP => .inl (.inl (hk hP.1 _ _ htb3))) (fun i x H5 hx hP => ?_) (fun H5 hP => ?_)
        · obtain ⟨sb, es, hZ, pe⟩ := hP
          obtain ⟨b, eb, hb0⟩ := paired_get pr' hx
          obtain ⟨a, rfl, ha⟩ := hb0.same (Same.trans s3 (hk sb))
          have mb := List.mem_of_getElem? eb
          have fb := dg2.few.2 b mb
          have fl := dg2.few.1
          have li := (List.getElem?_eq_some_iff.mp eb).1
          have lt : es.length = i := by
            rw [pe.length, List.length_map, List.length_take]
            have := (List.getElem?_eq_some_iff.mp eb).1
            omega
          refine ⟨rfl, ?_⟩
          refine ⟨_, rfl, a, rfl, ⟨_, .inl (.inl ha)⟩, fun Y nY => ?_⟩
          have nYZ : Y ≠ Z := fun z => by rw [z, hZ] at nY; cases nY
          have hk2 : ∀ {H6 : Hp}, SameBut Y H5 H6 → Same H5 H6 := fun sb b o e => sb _ _ (ne_of_none e nY) e
          refine lc_tup (K := K) (xs := b.map V.int) (fun j H6 => SameBut Y H5 H6 ∧ H6 Y = some (.lst (((b.take j).map fun p => (n' : Int) + p).map V.int))) ⟨SameBut.upd, upd_same⟩ (fun j H6 _ hP => .inl (.inl (hk2 hP.1 _ _ ha))) (fun j y H6 hy hP => ?_) (fun H6 hP => ?_)
          · obtain ⟨sb2, hY⟩ := hP
            have lj : j < b.length := by have := (List.getElem?_eq_some_iff.mp hy).1; rwa [List.length_map] at this
            have ez : (b.map V.int)[j]? = some (.int (co b j)) := by rw [List.getElem?_map, co_get lj]; rfl
            obtain rfl : V.int (co b j) = y := Option.some.inj (ez.symm.trans hy)
            refine ⟨rfl, ?_⟩
            refine ⟨_, rfl, _, rfl, _, _, rfl, rfl, _, hY, by rw [List.length_map, List.length_map, List.length_take]; omega, sb2.trans SameBut.upd, ?_⟩
            rw [upd_same, take_snoc lj, List.map_append, List.map_append]
            rfl
          · obtain ⟨sb2, hY⟩ := hP
            rw [List.length_map, List.take_length] at hY
            have s6 := hk2 sb2
            refine ⟨es, s6 _ _ hZ, by omega, (sb.trans (Same.but s6)).trans SameBut.upd, es ++ [.ref Y], upd_same, ?_⟩
            rw [List.take_succ, eb, List.map_append]
            have one : LQ Z (upd H6 Z (.lst (es ++ [.ref Y]))) (.ref Y) (b.map fun p => (n' : Int) + p) := ⟨Y, rfl, nYZ, by rw [upd_ne nYZ]; exact hY⟩
            have old := Paired.mapP (G := LQ Z (upd H6 Z (.lst (es ++ [.ref Y])))) pe fun v b (h : LQ Z H5 v b) => (by
              obtain ⟨q0, e0, nz, h0⟩ := h
              exact ⟨q0, e0, nz, by rw [upd_ne nz]; exact s6 _ _ h0⟩)
            exact paired_snoc one old
        · obtain ⟨sb, es, hZ, pe⟩ := hP
          have s4 := hk sb
          have lts : ts'.length = (blocksOf l2).length := pr'.length
          rw [lts, List.take_length] at pe
          have f1 := dg1.few.1
          have f2 := dg2.few.1
          refine ⟨_, _, _, _, rfl, rfl, s4 _ _ hLb, hZ, by rw [pr.length, pe.length, List.length_map]; omega, fun G nG => ?_⟩
          have s5 := same_upd (o := .lst (ts ++ es)) nG
          have hG : upd H5 G (.lst (ts ++ es)) G = some (.lst (ts ++ es)) := upd_same
          have pg : Paired (Grp K (upd H5 G (.lst (ts ++ es)))) (ts ++ es) (putG n' l1 l2) := by
            refine paired_app (Paired.mapP pr fun _ _ h => ?_) (Paired.mapP pe fun _ _ h => ?_)
            · obtain ⟨a0, e0, h0⟩ := h.same (Same.trans s3 (Same.trans s4 s5))
              exact ⟨a0, e0, .inr (.inl (.inl h0))⟩
            · obtain ⟨a0, e0, _, h0⟩ := h
              exact ⟨a0, e0, .inl (.inl (.inl (s5 _ _ h0)))⟩
          revert s5 hG pg
          generalize upd H5 G (.lst (ts ++ es)) = H6
          intro s5 hG pg
          have lN1 : l1.length = n' + m' := by omega
          have lN2 : l2.length = m' + q' := by omega
          have gb := putG_bd lN1 lN2
          refine ⟨_, rfl, _, rfl, _, _, rfl, rfl, _, rfl, _, _, rfl, rfl, _, rfl, n' + m' + q', G, _, _, rfl, .inl (.inl hG), pg, gb, by omega, fun D H7 s7 nD hD => ?_⟩
          have lM : (putM n' m' q' l1 l2).length = n' + m' + q' := (ks_pcs gb).len
          rw [show pcs (n' + m' + q') (putG n' l1 l2) = putM n' m' q' l1 l2 from rfl] at hD
          refine ⟨_, rfl, _, rfl, _, rfl, D, _, rfl, .inl (.inl hD), fun p1 np1 => ?_⟩
          have q1 := same_upd (o := .lst (cutV ((putM n' m' q' l1 l2).map V.int) none (some (n' : Int)))) np1
          refine ⟨_, rfl, _, rfl, _, rfl, _, _, rfl, rfl, _, rfl, D, _, rfl, .inl (.inl (q1 _ _ hD)), fun p2 np2 => ?_⟩
          have q2 := same_upd (o := .lst (cutV ((putM n' m' q' l1 l2).map V.int) (some ((n' : Int) + (m' : Int))) none)) np2
          rw [cutI_to (by omega) (by omega), cutI_from (by omega) (by omega)] at *
          refine ⟨_, _, _, _, rfl, rfl, q2 _ _ upd_same, upd_same, by rw [List.length_map, List.length_map, List.length_take, List.length_drop]; omega, fun p3 np3 => ?_⟩
          have eS : ((putM n' m' q' l1 l2).take (n' : Int).toNat).map V.int ++ ((putM n' m' q' l1 l2).drop ((n' : Int) + (m' : Int)).toNat).map V.int = (putS n' m' q' l1 l2).map V.int := by
            unfold putS
            rw [← List.map_append, show ((n' : Int) + (m' : Int)).toNat = n' + m' by omega]
            rfl
          have lS : (putS n' m' q' l1 l2).length = n' + q' := by
            unfold putS
            rw [List.length_append, List.length_take, List.length_drop, lM]
            omega
          have q3 := same_upd (o := .lst (((putM n' m' q' l1 l2).take (n' : Int).toNat).map V.int ++ ((putM n' m' q' l1 l2).drop ((n' : Int) + (m' : Int)).toNat).map V.int)) np3
          have s8 := Same.trans q1 (Same.trans q2 q3)
          have hD8 := s8 _ _ hD
          revert s8 hD8
          rw [eS]
          generalize e8 : upd (upd (upd H7 p1 _) p2 _) p3 (.lst ((putS n' m' q' l1 l2).map V.int)) = H8
          intro s8 hD8
          have hS8 : H8 p3 = some (.lst ((putS n' m' q' l1 l2).map V.int)) := by rw [← e8]; exact upd_same
          have s08 := Same.trans s02 (Same.trans s3 (Same.trans s4 (Same.trans s5 (Same.trans s7 s8))))
          refine ⟨_, rfl, _, rfl, D, p3, _, _, rfl, .inl (.inl hD8), .inl (.inl hS8), by omega, fun k hk => ?_, by omega, ?_⟩
          · have := pcs_mem gb k hk
            omega
          · refine ⟨_, rfl, _, rfl, _, rfl, _, _, p3, _, rfl, .inl (.inl hS8), by omega, fun z => ?_, fun sz3 => ⟨fun z => absurd (show ((putS n' m' q' l1 l2).length : Int) = (n' : Int) + (q' : Int) by omega) z, fun _ v' H9 s9 dv => ?_⟩⟩
            · have : siz (n' : Int) (q' : Int) = true := siz_iff.mpr (by omega)
              rw [this] at z
              exact nomatch z
            · refine ⟨(by show 2 ≤ sizeLine; decide), fun t3 nt3 => ?_⟩
              have q4 := same_upd (o := .tup [.int (hid (putM n' m' q' l1 l2) (putS n' m' q' l1 l2) : Nat), v']) nt3
              exact q t3 v' _ (Same.trans s08 (Same.trans s9 q4)) upd_same ⟨dv.same q4, siz_iff.mpr (by omega), by omega⟩
      · refine if_pos_of (by rw [decide_eq_true_eq]; omega) (qT rfl (by omega) H2 s02)
    · exact if_pos_of (by rw [decide_eq_false fun z => c (by have := V.int.inj z; omega)]; rfl) (qB c H2 s02)
end

/-! ### one above another: the same in both ways -/
def inoutL (a b : Nat) (z : List Int) : List Int := z.take a ++ z.drop b
theorem inout_len {a b : Nat} {z : List Int} (h : a ≤ b) (hb : b ≤ z.length) : (inoutL a b z).length = a + (z.length - b) := by
  unfold inoutL
  rw [List.length_append, List.length_take, List.length_drop]
  omega
theorem co_drop (z : List Int) (b i : Nat) : co (z.drop b) i = co z (b + i) := by
  unfold co
  rw [List.getD_eq_getElem?_getD, List.getD_eq_getElem?_getD, List.getElem?_drop]
theorem co_takeB {z : List Int} {a i : Nat} (h : i < a) : co (z.take a) i = co z i := by
  unfold co
  rw [List.getD_eq_getElem?_getD, List.getD_eq_getElem?_getD, List.getElem?_take_of_lt h]
theorem inout_co {a b : Nat} {z : List Int} (h : a ≤ b) (hb : b ≤ z.length) (i : Nat) (hi : i < a + (z.length - b)) : co (inoutL a b z) i = if i < a then co z i else co z (b + (i - a)) := by
  have la : (z.take a).length = a := by rw [List.length_take]; omega
  unfold inoutL
  by_cases c : i < a
  · rw [if_pos c, co_app_l (by omega), co_takeB c]
  · rw [if_neg c]
    have := co_app_r (a := z.take a) (b := z.drop b) (i := i - a) (by rw [List.length_drop]; omega)
    rw [la, show a + (i - a) = i by omega] at this
    rw [this, co_drop]
theorem inout_mem {a b : Nat} {z : List Int} {x : Int} (h : a ≤ b) (hb : b ≤ z.length) : x ∈ inoutL a b z ↔ ∃ p, (p < a ∨ b ≤ p) ∧ p < z.length ∧ co z p = x := by
  constructor
  · intro hx
    obtain ⟨i, hi, e⟩ := mem_get hx
    rw [inout_len h hb] at hi
    rw [inout_co h hb i hi] at e
    by_cases c : i < a
    · rw [if_pos c] at e
      exact ⟨i, .inl c, by omega, e⟩
    · rw [if_neg c] at e
      exact ⟨b + (i - a), .inr (by omega), by omega, e⟩
  · rintro ⟨p, hp, hl, rfl⟩
    rcases hp with hp | hp
    · have := inout_co h hb p (by omega)
      rw [if_pos hp] at this
      rw [← this]
      exact co_mem (by rw [inout_len h hb]; omega)
    · have := inout_co h hb (a + (p - b)) (by omega)
      rw [if_neg (by omega), show b + (a + (p - b) - a) = p by omega] at this
      rw [← this]
      exact co_mem (by rw [inout_len h hb]; omega)
def Fput (n m q : Nat) (l1 l2 : List Int) (i j : Nat) : Prop := (i < n + m ∧ j < n + m ∧ co l1 i = co l1 j) ∨ ∃ a b, a < m + q ∧ b < m + q ∧ i = n + a ∧ j = n + b ∧ co l2 a = co l2 b
theorem map_add_toNat {n : Nat} {g : List Int} (hg : g ≠ []) (h : ∀ p ∈ g, 0 ≤ p) : (co (g.map fun p => (n : Int) + p) 0).toNat = n + (co g 0).toNat := by
  have l0 : 0 < g.length := by cases g with | nil => exact absurd rfl hg | cons _ _ => exact Nat.zero_lt_succ _
  rw [co_map_lt l0]
  have := h _ (co_mem l0)
  omega
theorem ks_putM {n m q : Nat} {l1 l2 : List Int} (h1 : l1.length = n + m) (h2 : l2.length = m + q) : Ks (n + m + q) (putM n m q l1 l2) (Fput n m q l1 l2) := by
  refine (ks_pcs (putG_bd h1 h2)).congr (fun i j h => ?_) (fun i j h => ?_) (fun i j h => ?_)
  · rcases h with ⟨a, b, _⟩ | ⟨a, b, ha, hb, rfl, rfl, _⟩
    · exact ⟨by omega, by omega⟩
    · exact ⟨by omega, by omega⟩
  · obtain ⟨g, hg, p, hp, e1, e2⟩ := h
    rcases List.mem_append.mp hg with hg | hg
    · obtain ⟨a, b, e⟩ := blocks_ge i j ⟨g, hg, p, hp, e1, e2⟩
      exact .ed (.inl ⟨by omega, by omega, e⟩)
    · obtain ⟨b, hb, rfl⟩ := List.mem_map.mp hg
      have bb := blocks_gbd l2 b hb
      rw [← List.map_drop] at hp
      obtain ⟨x, hx, rfl⟩ := List.mem_map.mp hp
      have bx := bb.2 x (List.mem_of_mem_drop hx)
      obtain ⟨c1, c2, c3⟩ := blocks_ge (l := l2) (co b 0).toNat x.toNat ⟨b, hb, x, hx, rfl, rfl⟩
      rw [map_add_toNat bb.1 fun p hp => (bb.2 p hp).1] at e1
      exact .ed (.inr ⟨_, _, by omega, by omega, e1, by omega, c3⟩)
  · rcases h with ⟨a, b, e⟩ | ⟨a, b, ha, hb, rfl, rfl, e⟩
    · exact (ge_blocks (by omega) (by omega) e).mono fun i j ⟨g, hg, r⟩ => .ed ⟨g, List.mem_append_left _ hg, r⟩
    · refine (ge_blocks (l := l2) (i := a) (j := b) (by omega) (by omega) e).map (f := fun x => n + x) fun i j ⟨g, hg, p, hp, e1, e2⟩ => .ed ?_
      have bb := blocks_gbd l2 g hg
      have bx := bb.2 p (List.mem_of_mem_drop hp)
      refine ⟨g.map fun p => (n : Int) + p, List.mem_append_right _ (List.mem_map.mpr ⟨g, hg, rfl⟩), (n : Int) + p, by rw [← List.map_drop]; exact List.mem_map.mpr ⟨p, hp, rfl⟩, ?_, by omega⟩
      rw [map_add_toNat bb.1 fun p hp => (bb.2 p hp).1, e1]
/-- the law's own -/
def lputL (n m : Nat) : List (Nat × Nat) := (List.range m).map fun k => (n + k, n + m + k)
def lputB (n m q : Nat) (l1 l2 : List Int) : List Int := labL (blocksOf l1) (n + m) ++ (labL (blocksOf l2) (m + q)).map fun k => 100 + k
def lputJ (n m q : Nat) (l1 l2 : List Int) : List Int := jns (lputB n m q l1 l2) (lputL n m)
def lputS (n m q : Nat) (l1 l2 : List Int) : List Int := inoutL n (n + m + m) (lputJ n m q l1 l2)
def Eput (n m q : Nat) (l1 l2 : List Int) (i j : Nat) : Prop := (i < n + m ∧ j < n + m ∧ co l1 i = co l1 j) ∨ (∃ a b, a < m + q ∧ b < m + q ∧ i = n + m + a ∧ j = n + m + b ∧ co l2 a = co l2 b) ∨ ∃ k, k < m ∧ i = n + k ∧ j = n + m + k
theorem lab_ker {N : Nat} {l : List Int} (hl : l.length = N) {i j : Nat} (hi : i < N) (hj : j < N) : co (labL (blocksOf l) N) i = co (labL (blocksOf l) N) j ↔ co l i = co l j := by
  obtain ⟨g, eg, inj⟩ := labs_map (n := (N : Int)) (m := 0) (l := l) (by omega)
  rw [show ((N : Int) + 0).toNat = N by omega] at eg
  rw [eg, co_map_lt (by omega), co_map_lt (by omega)]
  exact ⟨fun e => inj _ (co_mem (by omega)) _ (co_mem (by omega)) e, fun e => by rw [e]⟩
theorem ks_lputJ {n m q : Nat} {l1 l2 : List Int} (h1 : l1.length = n + m) (h2 : l2.length = m + q) (sm : n + m ≤ 12) : Ks (n + m + m + q) (lputJ n m q l1 l2) (Eput n m q l1 l2) := by
  have L1 : (labL (blocksOf l1) (n + m)).length = n + m := labL_len _ _
  have L2 : (labL (blocksOf l2) (m + q)).length = m + q := labL_len _ _
  have lB : (lputB n m q l1 l2).length = n + m + m + q := by
    unfold lputB
    rw [List.length_append, List.length_map, L1, L2]
    omega
  have cl : ∀ i, i < n + m → co (lputB n m q l1 l2) i = co (labL (blocksOf l1) (n + m)) i := fun i hi => co_app_l (by omega)
  have cr : ∀ a, a < m + q → co (lputB n m q l1 l2) (n + m + a) = 100 + co (labL (blocksOf l2) (m + q)) a := fun a ha => by
    have := co_app_r (a := labL (blocksOf l1) (n + m)) (b := (labL (blocksOf l2) (m + q)).map fun k => 100 + k) (i := a) (by rw [List.length_map]; omega)
    rw [L1] at this
    exact this.trans (co_map_lt (by omega))
  have b1 : (blocksOf l1).length ≤ 12 := by
    have h3 := seenL_len l1 []
    have h4 : ([] : List Int).length = 0 := rfl
    unfold blocksOf
    rw [List.length_map]
    omega
  have up1 : ∀ i, i < n + m → co (lputB n m q l1 l2) i < 100 := fun i hi => by
    rw [cl i hi]
    have := labL_mem (bs := blocksOf l1) (N := n + m) _ (co_mem (k := i) (by omega))
    omega
  have lo2 : ∀ a, a < m + q → 100 ≤ co (lputB n m q l1 l2) (n + m + a) := fun a ha => by
    rw [cr a ha]
    have := labL_mem (bs := blocksOf l2) (N := m + q) _ (co_mem (k := a) (by omega))
    omega
  have k0 := ks_marks (lputB n m q l1 l2)
  rw [lB] at k0
  have kk := ks_jns (lputL n m) _ _ (fun e he => by
    obtain ⟨k, hk, rfl⟩ := List.mem_map.mp he
    have := List.mem_range.mp hk
    exact ⟨by show n + k < _; omega, by show n + m + k < _; omega⟩) k0
  refine kk.congr (fun i j h => ?_) (fun i j h => ?_) (fun i j h => ?_)
  · rcases h with ⟨a, b, _⟩ | ⟨a, b, ha, hb, rfl, rfl, _⟩ | ⟨k, hk, rfl, rfl⟩ <;> exact ⟨by omega, by omega⟩
  · rcases h with ⟨a, b, e⟩ | h
    · by_cases c1 : i < n + m
      · by_cases c2 : j < n + m
        · rw [cl i c1, cl j c2] at e
          exact .ed (.inl ⟨c1, c2, (lab_ker h1 c1 c2).mp e⟩)
        · have := lo2 (j - (n + m)) (by omega)
          rw [show n + m + (j - (n + m)) = j by omega] at this
          have := up1 i c1
          omega
      · by_cases c2 : j < n + m
        · have := lo2 (i - (n + m)) (by omega)
          rw [show n + m + (i - (n + m)) = i by omega] at this
          have := up1 j c2
          omega
        · obtain ⟨x, rfl⟩ : ∃ x, i = n + m + x := ⟨i - (n + m), by omega⟩
          obtain ⟨y, rfl⟩ : ∃ y, j = n + m + y := ⟨j - (n + m), by omega⟩
          rw [cr x (by omega), cr y (by omega)] at e
          exact .ed (.inr (.inl ⟨x, y, by omega, by omega, rfl, rfl, (lab_ker h2 (by omega) (by omega)).mp (by omega)⟩))
    · obtain ⟨k, hk, e⟩ := List.mem_map.mp h
      have e1 := congrArg Prod.fst e
      have e2 := congrArg Prod.snd e
      exact .ed (.inr (.inr ⟨k, List.mem_range.mp hk, e1.symm, e2.symm⟩))
  · rcases h with ⟨a, b, e⟩ | ⟨a, b, ha, hb, rfl, rfl, e⟩ | ⟨k, hk, rfl, rfl⟩
    · refine .ed (.inl ⟨by omega, by omega, ?_⟩)
      rw [cl i a, cl j b]
      exact (lab_ker h1 a b).mpr e
    · refine .ed (.inl ⟨by omega, by omega, ?_⟩)
      rw [cr a ha, cr b hb, (lab_ker h2 ha hb).mpr e]
    · exact .ed (.inr (List.mem_map.mpr ⟨k, List.mem_range.mpr hk, rfl⟩))
def fput (n m i : Nat) : Nat := if i < n + m then i else i - m
theorem fput_sec (n m p : Nat) : fput n m (if p < n + m then p else p + m) = p := by
  by_cases c : p < n + m
  · rw [if_pos c]
    exact if_pos c
  · rw [if_neg c]
    unfold fput
    by_cases d : p + m < n + m
    · rw [if_pos d]
      omega
    · rw [if_neg d]
      omega
theorem conn_put {n m q : Nat} {l1 l2 : List Int} {i j : Nat} (hi : i < n + m + m + q) (hj : j < n + m + m + q) : Conn (Eput n m q l1 l2) i j ↔ Conn (Fput n m q l1 l2) (fput n m i) (fput n m j) := by
  have fhi : ∀ a, fput n m (n + m + a) = n + a := fun a => by unfold fput; rw [if_neg (by omega)]; omega
  have flo : ∀ i, i < n + m → fput n m i = i := fun i h => if_pos h
  constructor
  · refine Conn.map fun i j h => ?_
    rcases h with ⟨a, b, e⟩ | ⟨a, b, ha, hb, rfl, rfl, e⟩ | ⟨k, hk, rfl, rfl⟩
    · rw [flo i a, flo j b]
      exact .ed (.inl ⟨a, b, e⟩)
    · rw [fhi, fhi]
      exact .ed (.inr ⟨a, b, ha, hb, rfl, rfl, e⟩)
    · rw [fhi, flo _ (by omega)]
      exact .rf _
  · intro c
    have near : ∀ a, a < m + q → Conn (Eput n m q l1 l2) (if n + a < n + m then n + a else n + a + m) (n + m + a) := fun a ha => by
      by_cases c : n + a < n + m
      · rw [if_pos c]
        exact .ed (.inr (.inr ⟨a, by omega, rfl, rfl⟩))
      · rw [if_neg c, show n + a + m = n + m + a by omega]
        exact .rf _
    have back := Conn.map (F := Eput n m q l1 l2) (f := fun x => if x < n + m then x else x + m) (fun i j h => ?_) c
    · have home : ∀ i, i < n + m + m + q → Conn (Eput n m q l1 l2) (if fput n m i < n + m then fput n m i else fput n m i + m) i := fun i hi => by
        by_cases c : i < n + m
        · rw [flo i c, if_pos c]
          exact .rf _
        · obtain ⟨a, rfl⟩ : ∃ a, i = n + m + a := ⟨i - (n + m), by omega⟩
          rw [fhi]
          exact near a (by omega)
      exact ((home i hi).sy.tr back).tr (home j hj)
    · rcases h with ⟨a, b, e⟩ | ⟨a, b, ha, hb, rfl, rfl, e⟩
      · show Conn _ (if i < n + m then i else i + m) (if j < n + m then j else j + m)
        rw [if_pos a, if_pos b]
        exact .ed (.inl ⟨a, b, e⟩)
      · exact ((near a ha).tr (.ed (.inr (.inl ⟨a, b, ha, hb, rfl, rfl, e⟩)))).tr (near b hb).sy
theorem put_same {n m q : Nat} {l1 l2 : List Int} (h1 : l1.length = n + m) (h2 : l2.length = m + q) (sm : n + m ≤ 12) : hid (lputJ n m q l1 l2) (lputS n m q l1 l2) = hid (putM n m q l1 l2) (putS n m q l1 l2) ∧ blocksOf (lputS n m q l1 l2) = blocksOf (putS n m q l1 l2) := by
  have kM := ks_putM h1 h2
  have kJ := ks_lputJ h1 h2 sm
  have eqv : ∀ i j, i < n + m + m + q → j < n + m + m + q → (co (lputJ n m q l1 l2) i = co (lputJ n m q l1 l2) j ↔ co (putM n m q l1 l2) (fput n m i) = co (putM n m q l1 l2) (fput n m j)) := fun i j hi hj => by
    have f1 : fput n m i < n + m + q := by unfold fput; split <;> omega
    have f2 : fput n m j < n + m + q := by unfold fput; split <;> omega
    rw [kJ.eq i j hi hj, kM.eq _ _ f1 f2]
    exact conn_put hi hj
  have lJ := kJ.len
  have lM := kM.len
  have sS : putS n m q l1 l2 = inoutL n (n + m) (putM n m q l1 l2) := rfl
  constructor
  · refine hid_map (fput n m) (fun i hi => by rw [lJ] at hi; rw [lM]; unfold fput; split <;> omega) (fun i hi => ?_) (fun i j hi hj => by rw [lJ] at hi hj; exact eqv i j hi hj) fun i hi => ?_
    · rw [lM] at hi
      exact ⟨if i < n + m then i else i + m, by rw [lJ]; split <;> omega, by rw [fput_sec]⟩
    · rw [lJ] at hi
      rw [sS]
      unfold lputS
      rw [inout_mem (by omega) (by omega), inout_mem (by omega) (by omega)]
      constructor
      · rintro ⟨p, hp, hl, e⟩
        rw [lJ] at hl
        refine ⟨fput n m p, ?_, by rw [lM]; unfold fput; split <;> omega, (eqv p i hl hi).mp e⟩
        unfold fput
        split <;> omega
      · rintro ⟨p, hp, hl, e⟩
        rw [lM] at hl
        refine ⟨if p < n + m then p else p + m, ?_, by rw [lJ]; split <;> omega, ?_⟩
        · split <;> omega
        · refine (eqv _ i (by split <;> omega) hi).mpr ?_
          rw [fput_sec]
          exact e
  · refine KerEq.blocks ⟨?_, fun i j hi hj => ?_⟩
    · rw [sS]
      unfold lputS
      rw [inout_len (by omega) (by omega), inout_len (by omega) (by omega), lJ, lM]
      omega
    · rw [sS, inout_len (by omega) (by omega), lM] at hi hj
      rw [sS]
      unfold lputS
      rw [inout_co (by omega) (by omega) i (by omega), inout_co (by omega) (by omega) j (by omega), inout_co (by omega) (by omega) i (by omega), inout_co (by omega) (by omega) j (by omega)]
      have f : ∀ i, i < n + (n + m + q - (n + m)) → ∃ p, p < n + m + m + q ∧ (if i < n then co (lputJ n m q l1 l2) i else co (lputJ n m q l1 l2) (n + m + m + (i - n))) = co (lputJ n m q l1 l2) p ∧ (if i < n then co (putM n m q l1 l2) i else co (putM n m q l1 l2) (n + m + (i - n))) = co (putM n m q l1 l2) (fput n m p) := fun i hi => by
        by_cases c : i < n
        · refine ⟨i, by omega, if_pos c, ?_⟩
          rw [if_pos c]
          congr 1
          unfold fput
          rw [if_pos (by omega)]
        · refine ⟨n + m + m + (i - n), by omega, if_neg c, ?_⟩
          rw [if_neg c]
          congr 1
          unfold fput
          rw [if_neg (by omega)]
          omega
      obtain ⟨p, hp, e1, e2⟩ := f i hi
      obtain ⟨r, hr, e3, e4⟩ := f j hj
      rw [e1, e2, e3, e4]
      exact (eqv p r hp hr).symm

section
variable {P : Program} {w : World} {K : PySem.W.Frag} {mg : Str → Option Value} {base : Heap}
/-! ### closed_end -/
def endG (n m c : Nat) (l : List Int) : List (List Int) := blocksOf l ++ (List.range c).map fun k => [((n - c + k : Nat) : Int), ((n + m - c + k : Nat) : Int)]
def endM (n m c : Nat) (l : List Int) : List Int := pcs (n + m) (endG n m c l)
def endS (n m c : Nat) (l : List Int) : List Int := (endM n m c l).take (n - c) ++ ((endM n m c l).drop n).take (m - c)
theorem endG_bd {n m c : Nat} {l : List Int} (hl : l.length = n + m) (hc : c ≤ n ∧ c ≤ m) : GBd (n + m) (endG n m c l) := fun g hg => by
  rcases List.mem_append.mp hg with hg | hg
  · have := blocks_gbd l g hg
    rw [hl] at this
    exact this
  · obtain ⟨k, hk, rfl⟩ := List.mem_map.mp hg
    have := List.mem_range.mp hk
    refine ⟨fun z => List.cons_ne_nil _ _ z, fun p hp => ?_⟩
    rcases List.mem_cons.mp hp with rfl | hp
    · omega
    · obtain rfl := List.mem_singleton.mp hp
      omega
def spClosedEnd (CD CB : Addr) : Sp := fun vs H Q E => ∃ (v : V) (n m : Int) (bs : List (List Int)) (c : Int), vs = [v, .int c] ∧ DGv H v n m bs ∧ DgOk n m bs ∧
  ((¬ IsDg n m bs ∧ ∀ H', Same H H' → E (.ref CD) none H') ∨ ∃ (n' m' : Nat) (l : List Int), n = n' ∧ m = m' ∧ bs = blocksOf l ∧ siz n m = true ∧ (l.length : Int) = n + m ∧ (¬ (0 ≤ c ∧ c ≤ min n' m') → ∀ H', Same H H' → E (.ref CB) none H') ∧
    (∀ c' : Nat, c = c' → c' ≤ min n' m' → ∀ (t : Addr) (v' : V) (H' : Hp), Same H H' → H' t = some (.tup [.int (hid (endM n' m' c' l) (endS n' m' c' l) : Nat), v']) → DgAt H' v' (n' - c' : Nat) (m' - c' : Nat) (endS n' m' c' l) → Q (.ref t) H'))
theorem ok_closed_end {f CD CB a_check_diagram a_piece_marks a_hidden_count a_from_labels : Addr} {fd fd_check_diagram fd_piece_marks fd_hidden_count fd_from_labels : FuncData} (F : Fun K "closed_end" "closed_end" s_closed_end f fd) (T : ErrC K mg "BadNumber" CB) (z_list : mg "list" = none) (z_range : mg "range" = none) (z_min : mg "min" = none)
    (G_check_diagram : FnOk P w K mg base (L2N.CX P w) 3 a_check_diagram fd_check_diagram ["diagram"] (spCheckDiagram CD)) (g_check_diagram : mg "check_diagram" = some (.ref a_check_diagram)) (k_check_diagram : PySem.W.keepIn K (.ref a_check_diagram) = true) (b_check_diagram : Binds K fd_check_diagram ["diagram"] [])
    (G_piece_marks : FnOk P w K mg base CX0 2 a_piece_marks fd_piece_marks ["size", "groups"] (spPieceMarks K)) (g_piece_marks : mg "piece_marks" = some (.ref a_piece_marks)) (k_piece_marks : PySem.W.keepIn K (.ref a_piece_marks) = true) (b_piece_marks : Binds K fd_piece_marks ["size", "groups"] [])
    (G_hidden_count : FnOk P w K mg base CX0 1 a_hidden_count fd_hidden_count ["marks", "shown"] (spHidden K)) (g_hidden_count : mg "hidden_count" = some (.ref a_hidden_count)) (k_hidden_count : PySem.W.keepIn K (.ref a_hidden_count) = true) (b_hidden_count : Binds K fd_hidden_count ["marks", "shown"] [])
    (G_from_labels : FnOk P w K mg base (L2N.CX P w) 3 a_from_labels fd_from_labels ["n", "m", "marks"] (spFromLabels K CB)) (g_from_labels : mg "from_labels" = some (.ref a_from_labels)) (k_from_labels : PySem.W.keepIn K (.ref a_from_labels) = true) (b_from_labels : Binds K fd_from_labels ["n", "m", "marks"] []) :
    FnOk P w K mg base (L2N.CX P w) 4 f fd ["diagram", "count"] (spClosedEnd CD CB) := by
  obtain ⟨gc_BadNumber, x_BadNumber, kc_BadNumber, bc_BadNumber, tc_BadNumber⟩ := T
  refine F.okXN sc_closed_end (fun vs H Q E h => ?_) (fun cdv A outer s H vs Q E hr h => ?_)
  · obtain ⟨v, n, m, bs, c, rfl, _⟩ := h
    rfl
  · obtain ⟨v, n, m, bs, c, rfl, hv, hb, h⟩ := h
    refine ⟨_, (pss_cons (ps_expr (pe_call G_check_diagram (hr.mono (by decide)) rfl g_check_diagram k_check_diagram b_check_diagram .nil (L2N.passes_call (L2N.takes_of rfl rfl rfl rfl) (fun _ _ _ _ h => h)) (pa_cons (pv 0) pa_nil)))
  (pss_cons (ps_asg (pv 0) (pg_tup rfl (pgs_cons (pg_name (i := 2) sc_closed_end.nd rfl (.inl rfl)) (pgs_cons (pg_name (i := 3) sc_closed_end.nd rfl (.inl rfl)) (pgs_cons (pg_name (i := 4) sc_closed_end.nd rfl (.inl rfl)) pgs_nil)))))
  (pss_cons (ps_if (pt_not (pt_chain op_le op_le pe_int (pv 1) (pe_callB (call_min2 rfl) (by rfl) z_min boot_min (pa_cons (pv 2) (pa_cons (pv 3) pa_nil))))) (pss_one (L2N.ps_raise rfl (L2N.takes_of rfl rfl rfl rfl) (L2N.pmk_own PySem.F.excBase_ValueError x_BadNumber gc_BadNumber kc_BadNumber (raises_own bc_BadNumber tc_BadNumber) rfl))) pss_nil)
  (pss_cons (ps_set (i := 5) sc_closed_end.nd rfl (.inr rfl) (pe_op op_sub (pv 2) (pv 1)))
  (pss_cons (ps_set (i := 6) sc_closed_end.nd rfl (.inr rfl) (pe_op op_sub (pe_op op_add (pv 2) (pv 3)) (pv 1)))
  (pss_cons (ps_set (i := 7) sc_closed_end.nd rfl (.inl rfl) (pe_op op_cat (pe_callTy call_list_of (by rfl) z_list boot_list (pa_cons (pv 4) pa_nil)) (pe_lc (own := [("k", 10)]) rfl sc_closed_end.nd (pi_range1 rfl z_range (pa_cons (pv 1) pa_nil)) (blkOk_by (N := ["diagram", "count", "n", "m", "blocks", "above", "below", "groups", "marks", "shown", "k"]) (sc := defScope s_closed_end) (by first | decide +kernel | rfl)) (fun _ _ _ _ _ => (pg_name (i := 10) sc_closed_end.nd rfl (.inl rfl))) (fun _ _ _ _ _ => pts_nil) (fun _ _ _ _ _ => (pe_tup (pa_cons (pe_op op_add (pv 5) (pv 10)) (pa_cons (pe_op op_add (pv 6) (pv 10)) pa_nil)))))))
  (pss_cons (ps_set (i := 8) sc_closed_end.nd rfl (.inl rfl) (pe_call G_piece_marks (hr.mono (by decide)) rfl g_piece_marks k_piece_marks b_piece_marks .nil pass0 (pa_cons (pe_op op_add (pv 2) (pv 3)) (pa_cons (pv 7) pa_nil))))
  (pss_cons (ps_set (i := 9) sc_closed_end.nd rfl (.inl rfl) (pe_op op_cat (pe_slice sl_list (pv 8) po_none (po_some (pv 5))) (pe_slice sl_list (pv 8) (po_some (pv 2)) (po_some (pv 6)))))
  (pss_one (ps_ret (pe_tup (pa_cons (pe_call G_hidden_count (hr.mono (by decide)) rfl g_hidden_count k_hidden_count b_hidden_count .nil pass0 (pa_cons (pv 8) (pa_cons (pv 9) pa_nil))) (pa_cons (pe_call G_from_labels (hr.mono (by decide)) rfl g_from_labels k_from_labels b_from_labels .nil (L2N.passes_call (L2N.takes_of rfl rfl rfl rfl) (fun _ _ _ _ h => h)) (pa_cons (pv 5) (pa_cons (pe_op op_sub (pv 3) (pv 1)) (pa_cons (pv 9) pa_nil)))) pa_nil))))))))))))), ?_⟩
    have szl : 20000 ≤ sizeLine := by decide
    rcases h with ⟨nd, e⟩ | ⟨n', m', l, rfl, rfl, rfl, sz, hl, qB, q⟩
    · exact ⟨_, rfl, v, n, m, bs, rfl, hv, hb, fun H1 s1 => ⟨fun dg => absurd dg nd, fun _ => e H1 s1⟩⟩
    refine ⟨_, rfl, v, _, _, _, rfl, hv, hb, fun H1 s1 => ⟨fun dg => ?_, fun nd => absurd (isDg_blocks sz hl) nd⟩⟩
    obtain ⟨t, vb, rfl, ht, tb, ts, rfl, htb, pr⟩ := DGv.same s1 hv
    have zs := siz_iff.mp sz
    refine ⟨_, rfl, t, _, rfl, .inl (.inl ht), rfl, _, _, rfl, _, _, rfl, _, _, rfl, rfl, ?_⟩
    refine ⟨_, rfl, _, _, rfl, rfl, _, rfl, ?_⟩
    by_cases c0 : 0 ≤ c
    · rw [decide_eq_true c0]
      refine iteT ⟨_, rfl, _, rfl, _, _, rfl, _, _, rfl, rfl, _, rfl, ?_⟩
      have em : (if (m' : Int) < (n' : Int) then (m' : Int) else (n' : Int)) = ((min n' m' : Nat) : Int) := by
        split <;> omega
      rw [em]
      by_cases c1 : c ≤ ((min n' m' : Nat) : Int)
      · rw [decide_eq_true c1]
        refine iteF ?_
        obtain ⟨c', rfl⟩ := Int.eq_ofNat_of_zero_le c0
        have hc : c' ≤ n' ∧ c' ≤ m' := by omega
        have q := q c' rfl (by omega)
        refine ⟨_, rfl, _, rfl, _, _, rfl, rfl, _, rfl, _, rfl, _, _, rfl, rfl, _, rfl, _, _, rfl, rfl, ?_⟩
        refine ⟨_, rfl, tb, ts, rfl, .inr (.inl (.inl htb)), fun Lb nLb => ?_⟩
        have s2 := same_upd (o := .lst ts) nLb
        have hLb : upd H1 Lb (.lst ts) Lb = some (.lst ts) := upd_same
        revert s2 hLb
        generalize upd H1 Lb (.lst ts) = H2
        intro s2 hLb
        refine ⟨_, rfl, (c' : Int), rfl, by omega, by omega, fun Z nZ => ?_⟩
        have hk : ∀ {H5 : Hp}, SameBut Z H2 H5 → Same H2 H5 := fun sb b o e => sb _ _ (ne_of_none e nZ) e
        rw [show (c' : Int).toNat = c' from rfl]
        refine lc_range (lo := 0) (n := c') (fun i H5 => SameBut Z H2 H5 ∧ ∃ es, H5 Z = some (.lst es) ∧ Paired (TP H5) es ((List.range i).map fun k => [((n' - c' + k : Nat) : Int), ((n' + m' - c' + k : Nat) : Int)])) ⟨SameBut.upd, [], upd_same, .nil⟩ (fun i H5 hi hP => ?_) (fun H5 hP => ?_)
        · obtain ⟨sb, es, hZ, pe⟩ := hP
          refine ⟨rfl, ?_⟩
          refine ⟨_, rfl, _, rfl, _, _, rfl, rfl, _, rfl, _, rfl, _, _, rfl, rfl, (by show 2 ≤ sizeLine; decide), fun p np => ?_⟩
          have sp := same_upd (o := .tup [.int ((n' : Int) - (c' : Int) + (0 + (i : Int))), .int ((n' : Int) + (m' : Int) - (c' : Int) + (0 + (i : Int)))]) np
          have npZ : p ≠ Z := fun z => by rw [z, hZ] at np; cases np
          have lt : es.length = i := by rw [pe.length, List.length_map, List.length_range]
          have sbZ : SameBut Z H2 (upd (upd H5 p (.tup [.int ((n' : Int) - (c' : Int) + (0 + (i : Int))), .int ((n' : Int) + (m' : Int) - (c' : Int) + (0 + (i : Int)))])) Z (.lst (es ++ [.ref p]))) := (sb.trans (Same.but sp)).trans SameBut.upd
          refine ⟨es, sp _ _ hZ, by rw [lt]; omega, sbZ, es ++ [.ref p], upd_same, ?_⟩
          rw [List.range_succ, List.map_append]
          have one : TP (upd (upd H5 p (.tup [.int ((n' : Int) - (c' : Int) + (0 + (i : Int))), .int ((n' : Int) + (m' : Int) - (c' : Int) + (0 + (i : Int)))])) Z (.lst (es ++ [.ref p]))) (.ref p) [((n' - c' + i : Nat) : Int), ((n' + m' - c' + i : Nat) : Int)] := ⟨p, rfl, by
            rw [upd_ne npZ, upd_same, show (n' : Int) - (c' : Int) + (0 + (i : Int)) = ((n' - c' + i : Nat) : Int) by omega, show (n' : Int) + (m' : Int) - (c' : Int) + (0 + (i : Int)) = ((n' + m' - c' + i : Nat) : Int) by omega]
            rfl⟩
          have old := Paired.mapP (G := TP (upd (upd H5 p (.tup [.int ((n' : Int) - (c' : Int) + (0 + (i : Int))), .int ((n' : Int) + (m' : Int) - (c' : Int) + (0 + (i : Int)))])) Z (.lst (es ++ [.ref p])))) pe fun v b (h : TP H5 v b) => (by
            obtain ⟨q0, e0, h0⟩ := h
            exact ⟨q0, e0, by rw [upd_ne (ne_of h0 hZ (fun z => nomatch z))]; exact sp _ _ h0⟩)
          exact paired_snoc one old
        · obtain ⟨sb, es, hZ, pe⟩ := hP
          have s12 := Same.trans s1 s2
          have s3 := hk sb
          refine ⟨_, _, _, _, rfl, rfl, s3 _ _ hLb, hZ, by rw [pr.length, pe.length, List.length_map, List.length_range]; have := dg.few.1; omega, fun G nG => ?_⟩
          have s4 := same_upd (o := .lst (ts ++ es)) nG
          have hG : upd H5 G (.lst (ts ++ es)) G = some (.lst (ts ++ es)) := upd_same
          have pg : Paired (Grp K (upd H5 G (.lst (ts ++ es)))) (ts ++ es) (endG n' m' c' l) := by
            refine paired_app (Paired.mapP pr fun _ _ h => ?_) (Paired.mapP pe fun _ _ h => ?_)
            · obtain ⟨a0, e0, h0⟩ := h.same (Same.trans s2 (Same.trans s3 s4))
              exact ⟨a0, e0, .inr (.inl (.inl h0))⟩
            · obtain ⟨a0, e0, h0⟩ := h.same s4
              exact ⟨a0, e0, .inr (.inl (.inl h0))⟩
          revert s4 hG pg
          generalize upd H5 G (.lst (ts ++ es)) = H6
          intro s4 hG pg
          have lN : l.length = n' + m' := by omega
          have gb := endG_bd (c := c') lN hc
          refine ⟨_, rfl, _, rfl, _, _, rfl, rfl, _, rfl, n' + m', G, _, _, rfl, .inl (.inl hG), pg, gb, by omega, fun D H7 s7 nD hD => ?_⟩
          have kM := ks_pcs gb
          have lM : (endM n' m' c' l).length = n' + m' := kM.len
          rw [show pcs (n' + m') (endG n' m' c' l) = endM n' m' c' l from rfl] at hD
          refine ⟨_, rfl, _, rfl, _, rfl, D, _, rfl, .inl (.inl hD), fun p1 np1 => ?_⟩
          have q1 := same_upd (o := .lst (cutV ((endM n' m' c' l).map V.int) none (some ((n' : Int) - (c' : Int))))) np1
          refine ⟨_, rfl, _, rfl, _, rfl, _, rfl, _, rfl, D, _, rfl, .inl (.inl (q1 _ _ hD)), fun p2 np2 => ?_⟩
          have q2 := same_upd (o := .lst (cutV ((endM n' m' c' l).map V.int) (some (n' : Int)) (some ((n' : Int) + (m' : Int) - (c' : Int))))) np2
          rw [cutI_to (by omega) (by omega), cutI_mid (by omega) (by omega) (by omega)] at *
          refine ⟨_, _, _, _, rfl, rfl, q2 _ _ upd_same, upd_same, by rw [List.length_map, List.length_map, List.length_take, List.length_take]; omega, fun p3 np3 => ?_⟩
          have eS : ((endM n' m' c' l).take ((n' : Int) - (c' : Int)).toNat).map V.int ++ (((endM n' m' c' l).drop (n' : Int).toNat).take (((n' : Int) + (m' : Int) - (c' : Int)).toNat - (n' : Int).toNat)).map V.int = (endS n' m' c' l).map V.int := by
            unfold endS
            rw [← List.map_append, show ((n' : Int) - (c' : Int)).toNat = n' - c' by omega, show ((n' : Int) + (m' : Int) - (c' : Int)).toNat - (n' : Int).toNat = m' - c' by omega]
            rfl
          have lS : (endS n' m' c' l).length = (n' - c') + (m' - c') := by
            unfold endS
            rw [List.length_append, List.length_take, List.length_take, List.length_drop, lM]
            omega
          have q3 := same_upd (o := .lst (((endM n' m' c' l).take ((n' : Int) - (c' : Int)).toNat).map V.int ++ (((endM n' m' c' l).drop (n' : Int).toNat).take (((n' : Int) + (m' : Int) - (c' : Int)).toNat - (n' : Int).toNat)).map V.int)) np3
          have s8 := Same.trans q1 (Same.trans q2 q3)
          have hD8 := s8 _ _ hD
          revert s8 hD8
          rw [eS]
          generalize e8 : upd (upd (upd H7 p1 _) p2 _) p3 (.lst ((endS n' m' c' l).map V.int)) = H8
          intro s8 hD8
          have hS8 : H8 p3 = some (.lst ((endS n' m' c' l).map V.int)) := by rw [← e8]; exact upd_same
          have s08 := Same.trans s1 (Same.trans s2 (Same.trans s3 (Same.trans s4 (Same.trans s7 s8))))
          refine ⟨_, rfl, _, rfl, D, p3, _, _, rfl, .inl (.inl hD8), .inl (.inl hS8), by omega, fun k hk => ?_, by omega, ?_⟩
          · have := pcs_mem gb k hk
            omega
          · refine ⟨_, rfl, _, rfl, _, rfl, _, _, rfl, rfl, _, rfl, _, _, p3, _, rfl, .inl (.inl hS8), by omega, fun z => ?_, fun sz2 => ⟨fun z => absurd (show ((endS n' m' c' l).length : Int) = (n' : Int) - c' + ((m' : Int) - c') by omega) z, fun _ v' H9 s9 dv => ?_⟩⟩
            · have : siz ((n' : Int) - c') ((m' : Int) - c') = true := siz_iff.mpr (by omega)
              rw [this] at z
              exact nomatch z
            · refine ⟨(by show 2 ≤ sizeLine; decide), fun t3 nt3 => ?_⟩
              have q4 := same_upd (o := .tup [.int (hid (endM n' m' c' l) (endS n' m' c' l) : Nat), v']) nt3
              refine q t3 v' _ (Same.trans s08 (Same.trans s9 q4)) upd_same ⟨?_, siz_iff.mpr (by omega), by omega⟩
              have dv2 := dv.same q4
              rw [show (n' : Int) - (c' : Int) = ((n' - c' : Nat) : Int) by omega, show (m' : Int) - (c' : Int) = ((m' - c' : Nat) : Int) by omega] at dv2
              exact dv2
      · rw [decide_eq_false c1]
        exact iteT (qB (fun z => c1 z.2) H1 s1)
    · rw [decide_eq_false c0]
      exact iteF ⟨_, rfl, iteT (qB (fun z => c0 z.1) H1 s1)⟩
end

section
variable {P : Program} {w : World} {K : PySem.W.Frag} {mg : Str → Option Value} {base : Heap}
/-! ### closing -/
def spClosing (CD CB : Addr) : Sp := fun vs H Q E => ∃ (v : V) (n m : Int) (bs : List (List Int)), vs = [v] ∧ DGv H v n m bs ∧ DgOk n m bs ∧
  ((¬ IsDg n m bs ∧ ∀ H', Same H H' → E (.ref CD) none H') ∨ ∃ (n' m' : Nat) (l : List Int), n = n' ∧ m = m' ∧ bs = blocksOf l ∧ siz n m = true ∧ (l.length : Int) = n + m ∧ (n' ≠ m' → ∀ H', Same H H' → E (.ref CB) none H') ∧
    (n' = m' → ∀ H', Same H H' → Q (.int (hid (endM n' n' n' l) (endS n' n' n' l) : Nat)) H'))
theorem ok_closing {f CD CB a_check_diagram a_closed_end : Addr} {fd fd_check_diagram fd_closed_end : FuncData} (F : Fun K "closing" "closing" s_closing f fd) (T : ErrC K mg "BadNumber" CB)
    (G_check_diagram : FnOk P w K mg base (L2N.CX P w) 3 a_check_diagram fd_check_diagram ["diagram"] (spCheckDiagram CD)) (g_check_diagram : mg "check_diagram" = some (.ref a_check_diagram)) (k_check_diagram : PySem.W.keepIn K (.ref a_check_diagram) = true) (b_check_diagram : Binds K fd_check_diagram ["diagram"] [])
    (G_closed_end : FnOk P w K mg base (L2N.CX P w) 4 a_closed_end fd_closed_end ["diagram", "count"] (spClosedEnd CD CB)) (g_closed_end : mg "closed_end" = some (.ref a_closed_end)) (k_closed_end : PySem.W.keepIn K (.ref a_closed_end) = true) (b_closed_end : Binds K fd_closed_end ["diagram", "count"] []) :
    FnOk P w K mg base (L2N.CX P w) 5 f fd ["diagram"] (spClosing CD CB) := by
  obtain ⟨gc_BadNumber, x_BadNumber, kc_BadNumber, bc_BadNumber, tc_BadNumber⟩ := T
  refine F.okXN sc_closing (fun vs H Q E h => ?_) (fun cdv A outer s H vs Q E hr h => ?_)
  · obtain ⟨v, n, m, bs, rfl, _⟩ := h
    rfl
  · obtain ⟨v, n, m, bs, rfl, hv, hb, h⟩ := h
    refine ⟨_, (pss_cons (ps_expr (pe_call G_check_diagram (hr.mono (by decide)) rfl g_check_diagram k_check_diagram b_check_diagram .nil (L2N.passes_call (L2N.takes_of rfl rfl rfl rfl) (fun _ _ _ _ h => h)) (pa_cons (pv 0) pa_nil)))
  (pss_cons (ps_if (pt_cmpR op_ne (pe_ix ix_tup (pv 0) pe_int (fun _ _ => rfl)) (pe_ix ix_tup (pv 0) pe_int (fun _ _ => rfl)) (nomark _)) (pss_one (L2N.ps_raise rfl (L2N.takes_of rfl rfl rfl rfl) (L2N.pmk_own PySem.F.excBase_ValueError x_BadNumber gc_BadNumber kc_BadNumber (raises_own bc_BadNumber tc_BadNumber) rfl))) pss_nil)
  (pss_cons (ps_asg (pe_call G_closed_end (hr.mono (by decide)) rfl g_closed_end k_closed_end b_closed_end .nil (L2N.passes_call (L2N.takes_of rfl rfl rfl rfl) (fun _ _ _ _ h => h)) (pa_cons (pv 0) (pa_cons (pe_ix ix_tup (pv 0) pe_int (fun _ _ => rfl)) pa_nil))) (pg_tup rfl (pgs_cons (pg_name (i := 1) sc_closing.nd rfl (.inl rfl)) (pgs_cons (pg_name (i := 2) sc_closing.nd rfl (.inl rfl)) pgs_nil))))
  (pss_one (ps_ret (pv 1)))))), ?_⟩
    have szl : 20000 ≤ sizeLine := by decide
    rcases h with ⟨nd, e⟩ | ⟨n', m', l, rfl, rfl, rfl, sz, hl, qB, q⟩
    · exact ⟨_, rfl, v, n, m, bs, rfl, hv, hb, fun H1 s1 => ⟨fun dg => absurd dg nd, fun _ => e H1 s1⟩⟩
    refine ⟨_, rfl, v, _, _, _, rfl, hv, hb, fun H1 s1 => ⟨fun dg => ?_, fun nd => absurd (isDg_blocks sz hl) nd⟩⟩
    have hv1 := DGv.same s1 hv
    obtain ⟨t, vb, rfl, ht, tb, ts, rfl, htb, pr⟩ := id hv1
    have zs := siz_iff.mp sz
    refine ⟨_, rfl, t, _, 0, .int n', rfl, rfl, .inl (.inl ht), atI_nat (j := 0) rfl, _, rfl, t, _, 1, .int m', rfl, rfl, .inl (.inl ht), atI_nat (j := 1) rfl, rfl, _, rfl, ?_⟩
    by_cases c : n' = m'
    · subst c
      refine ite_same ?_
      refine ⟨_, rfl, _, rfl, t, _, 0, .int n', rfl, rfl, .inl (.inl ht), atI_nat (j := 0) rfl, .ref t, _, _, _, _, rfl, hv1, hb, .inr ⟨n', n', l, rfl, rfl, rfl, sz, hl, fun z => absurd ⟨by omega, by omega⟩ z, fun c' ec _ t2 v' H2 s2 ht2 _ => ?_⟩⟩
      obtain rfl : n' = c' := by omega
      exact ⟨t2, _, rfl, .inl (.inl ht2), rfl, _, _, rfl, _, _, rfl, rfl, _, rfl, q rfl H2 (Same.trans s1 s2)⟩
    · exact if_pos_of (by rw [decide_eq_false fun z => c (by have := V.int.inj z; omega)]; rfl) (qB c H1 s1)
end

/-! ### three one above another -/
theorem two_hid {NT NR NP : Nat} {T R P S shT shR : List Int} {e ι : Nat → Nat} {oT oR : Nat → Prop} (lT : T.length = NT) (lR : R.length = NR) (lP : P.length = NP)
    (he : ∀ i, i < NR → e i < NT) (hι : ∀ p, p < NP → ι p < NT)
    (h1 : ∀ i j, i < NR → j < NR → (co R i = co R j ↔ co T (e i) = co T (e j)))
    (h2 : ∀ p, p < NP → co P p ∉ S → ∀ y, y < NT → co T (ι p) = co T y → ∃ p', p' < NP ∧ y = ι p' ∧ co P p' = co P p)
    (hinj : ∀ p p', p < NP → p' < NP → ι p = ι p' → p = p')
    (h3 : ∀ p p', p < NP → p' < NP → co P p = co P p' → co T (ι p) = co T (ι p'))
    (h4 : ∀ x, x < NT → (∃ i, i < NR ∧ co T (e i) = co T x) ∨ ∃ p, p < NP ∧ x = ι p ∧ co P p ∉ S)
    (h5 : ∀ x, x < NT → oT x → ∃ i, i < NR ∧ oR i ∧ e i = x) (h5' : ∀ i, i < NR → oR i → oT (e i))
    (h7 : ∀ i p, i < NR → p < NP → e i = ι p → co P p ∈ S)
    (sT : ∀ k, k ∈ shT ↔ ∃ x, x < NT ∧ oT x ∧ co T x = k) (sR : ∀ k, k ∈ shR ↔ ∃ x, x < NR ∧ oR x ∧ co R x = k) :
    hid T shT = hid P S + hid R shR := by
  have memF : ∀ (b sb : List Int) k, k ∈ (seenL [] b).filter (fun k => decide (k ∉ sb)) ↔ k ∈ b ∧ k ∉ sb := fun b sb k => by
    rw [List.mem_filter, seenL_mem, decide_eq_true_eq]
    exact ⟨fun z => ⟨z.1.elim (fun q => nomatch q) id, z.2⟩, fun z => ⟨.inr z.1, z.2⟩⟩
  have ndF : ∀ (b sb : List Int), ((seenL [] b).filter fun k => decide (k ∉ sb)).Nodup := fun b sb => (seenL_nodup b [] List.nodup_nil).filter _
  have iP : ∀ {v}, v ∈ P → P.idxOf v < NP ∧ co P (P.idxOf v) = v := fun hv => by rw [← lP]; exact ixf_co hv
  have iR : ∀ {v}, v ∈ R → R.idxOf v < NR ∧ co R (R.idxOf v) = v := fun hv => by rw [← lR]; exact ixf_co hv
  have key : ∀ i p, i < NR → p < NP → co P p ∉ S → co T (e i) ≠ co T (ι p) := fun i p hi hp hn z => by
    obtain ⟨p', hp', ey, ev⟩ := h2 p hp hn (e i) (he i hi) z.symm
    exact hn (by rw [← ev]; exact h7 i p' hi hp' ey)
  have e0 : hid P S + hid R shR = (((seenL [] P).filter fun k => decide (k ∉ S)).map (fun v => co T (ι (P.idxOf v))) ++ ((seenL [] R).filter fun k => decide (k ∉ shR)).map fun v => co T (e (R.idxOf v))).length := by
    rw [List.length_append, List.length_map, List.length_map]
    rfl
  rw [e0]
  refine (hid_is ?_ fun k => ?_).symm
  · refine List.nodup_append.mpr ⟨?_, ?_, ?_⟩
    · refine List.Pairwise.map _ (R := fun x y => (x ∈ P ∧ x ∉ S) ∧ y ∈ P ∧ x ≠ y) (fun x y ⟨hx, hy, ne⟩ z => ?_) (List.Pairwise.imp_of_mem (fun hx hy ne => ⟨(memF _ _ _).mp hx, ((memF _ _ _).mp hy).1, ne⟩) (ndF P S))
      have m1 := iP hx.1
      have m2 := iP hy
      obtain ⟨p', hp', ey, ev⟩ := h2 _ m1.1 (by rw [m1.2]; exact hx.2) _ (hι _ m2.1) z
      have := hinj _ _ m2.1 hp' ey
      rw [← this, m2.2, m1.2] at ev
      exact ne ev.symm
    · refine List.Pairwise.map _ (R := fun x y => x ∈ R ∧ y ∈ R ∧ x ≠ y) (fun x y ⟨hx, hy, ne⟩ z => ?_) (List.Pairwise.imp_of_mem (fun hx hy ne => ⟨((memF _ _ _).mp hx).1, ((memF _ _ _).mp hy).1, ne⟩) (ndF R shR))
      have m1 := iR hx
      have m2 := iR hy
      have := (h1 _ _ m1.1 m2.1).mpr z
      rw [m1.2, m2.2] at this
      exact ne this
    · intro x hx y hy z
      obtain ⟨v, hv, rfl⟩ := List.mem_map.mp hx
      obtain ⟨u, hu, rfl⟩ := List.mem_map.mp hy
      have m1 := iP ((memF _ _ _).mp hv).1
      have m2 := iR ((memF _ _ _).mp hu).1
      exact key _ _ m2.1 m1.1 (by rw [m1.2]; exact ((memF _ _ _).mp hv).2) z.symm
  · rw [List.mem_append, List.mem_map, List.mem_map]
    constructor
    · rintro (⟨v, hv, rfl⟩ | ⟨v, hv, rfl⟩)
      · obtain ⟨hv, hn⟩ := (memF _ _ _).mp hv
        have m := iP hv
        refine ⟨co_mem (by rw [lT]; exact hι _ m.1), fun z => ?_⟩
        obtain ⟨x, hx, ox, ex⟩ := (sT _).mp z
        obtain ⟨i, hi, _, rfl⟩ := h5 x hx ox
        exact key i _ hi m.1 (by rw [m.2]; exact hn) ex
      · obtain ⟨hv, hn⟩ := (memF _ _ _).mp hv
        have m := iR hv
        refine ⟨co_mem (by rw [lT]; exact he _ m.1), fun z => hn ?_⟩
        obtain ⟨x, hx, ox, ex⟩ := (sT _).mp z
        obtain ⟨i, hi, oi, rfl⟩ := h5 x hx ox
        exact (sR _).mpr ⟨i, hi, oi, ((h1 _ _ hi m.1).mpr ex).trans m.2⟩
    · rintro ⟨hk, hn⟩
      obtain ⟨x, hx, rfl⟩ := mem_get hk
      rw [lT] at hx
      rcases h4 x hx with ⟨i, hi, ei⟩ | ⟨p, hp, rfl, hp'⟩
      · right
        have mi : co R i ∈ R := co_mem (by rw [lR]; exact hi)
        have m := iR mi
        refine ⟨co R i, (memF _ _ _).mpr ⟨mi, fun z => hn ?_⟩, ((h1 _ _ m.1 hi).mp m.2).trans ei⟩
        obtain ⟨j, hj, oj, ej⟩ := (sR _).mp z
        exact (sT _).mpr ⟨e j, he j hj, h5' j hj oj, ((h1 _ _ hj hi).mp ej).trans ei⟩
      · left
        have mp : co P p ∈ P := co_mem (by rw [lP]; exact hp)
        have m := iP mp
        exact ⟨co P p, (memF _ _ _).mpr ⟨mp, hp'⟩, h3 _ _ m.1 hp m.2⟩
def eA (n m i : Nat) : Nat := if i < n then i else i + m
theorem eA_lo {n m i : Nat} (h : i < n) : eA n m i = i := if_pos h
theorem eA_hi {n m i : Nat} (h : n ≤ i) : eA n m i = i + m := if_neg (by omega)
theorem cutA_co {n m q : Nat} {P : List Int} (hP : P.length = n + m + q) {i : Nat} (hi : i < n + q) : co (inoutL n (n + m) P) i = co P (eA n m i) := by
  rw [inout_co (by omega) (by omega) i (by omega)]
  by_cases c : i < n
  · rw [if_pos c, eA_lo c]
  · rw [if_neg c, eA_hi (by omega)]
    congr 1
    omega
theorem connA {n m q r : Nat} {P l3 : List Int} (hP : P.length = n + m + q) {i j : Nat} (hi : i < n + q + r) (hj : j < n + q + r) :
    Conn (Fput n q r (inoutL n (n + m) P) l3) i j ↔ Conn (Fput (n + m) q r P l3) (eA n m i) (eA n m j) := by
  have lS : (inoutL n (n + m) P).length = n + q := by rw [inout_len (by omega) (by omega)]; omega
  constructor
  · refine Conn.map (f := eA n m) fun i j h => .ed ?_
    rcases h with ⟨a, b, c⟩ | ⟨a, b, ha, hb, rfl, rfl, c⟩
    · rw [cutA_co hP a, cutA_co hP b] at c
      refine .inl ⟨?_, ?_, c⟩
      · unfold eA; split <;> omega
      · unfold eA; split <;> omega
    · exact .inr ⟨a, b, ha, hb, by rw [eA_hi (by omega)]; omega, by rw [eA_hi (by omega)]; omega, c⟩
  · intro h
    have mS : ∀ x, x < n + m + q → (x < n ∨ n + m ≤ x) → co P x ∈ inoutL n (n + m) P := fun x hx ho => (inout_mem (by omega) (by omega)).mpr ⟨x, ho, by omega, rfl⟩
    -- a point of the outer ones has its like
    have like : ∀ i, i < n + q → Conn (Fput n q r (inoutL n (n + m) P) l3) ((inoutL n (n + m) P).idxOf (co P (eA n m i))) i := fun i hi => by
      have hx : co P (eA n m i) ∈ inoutL n (n + m) P := by rw [← cutA_co hP hi]; exact co_mem (by omega)
      have m := ixf_co hx
      rw [lS] at m
      exact .ed (.inl ⟨m.1, hi, by rw [m.2, cutA_co hP hi]⟩)
    have low : ∀ i, i < n + q → eA n m i < n + m + q := fun i hi => by unfold eA; split <;> omega
    have cm := Conn.map (F := Fput n q r (inoutL n (n + m) P) l3) (f := fun x => if x < n + m + q then (inoutL n (n + m) P).idxOf (co P x) else x - m) (fun x y h => ?_) h
    · have fin : ∀ i, i < n + q + r → Conn (Fput n q r (inoutL n (n + m) P) l3) ((fun x => if x < n + m + q then (inoutL n (n + m) P).idxOf (co P x) else x - m) (eA n m i)) i := fun i hi => by
        by_cases c : i < n + q
        · show Conn _ (if _ then _ else _) i
          rw [if_pos (low i c)]
          exact like i c
        · show Conn _ (if _ then _ else _) i
          rw [eA_hi (by omega), if_neg (by omega), show i + m - m = i by omega]
          exact .rf _
      exact .tr (.sy (fin i hi)) (.tr cm (fin j hj))
    · rcases h with ⟨a, b, c⟩ | ⟨a, b, ha, hb, rfl, rfl, c⟩
      · show Conn _ (if _ then _ else _) (if _ then _ else _)
        rw [if_pos a, if_pos b, c]
        exact .rf _
      · have go : ∀ a, a < q + r → Conn (Fput n q r (inoutL n (n + m) P) l3) ((fun x => if x < n + m + q then (inoutL n (n + m) P).idxOf (co P x) else x - m) (n + m + a)) (n + a) := fun a ha => by
          by_cases c : a < q
          · have := like (n + a) (by omega)
            rw [eA_hi (by omega), show n + a + m = n + m + a by omega] at this
            show Conn _ (if _ then _ else _) _
            rw [if_pos (by omega)]
            exact this
          · show Conn _ (if _ then _ else _) _
            rw [if_neg (by omega), show n + m + a - m = n + a by omega]
            exact .rf _
        exact .tr (go a ha) (.tr (.ed (.inr ⟨a, b, ha, hb, rfl, rfl, c⟩)) (.sy (go b hb)))
theorem assocA {n m q r : Nat} {P l3 : List Int} (hP : P.length = n + m + q) (h3 : l3.length = q + r) :
    hid (putM (n + m) q r P l3) (inoutL n (n + m + q) (putM (n + m) q r P l3)) = hid P (inoutL n (n + m) P) + hid (putM n q r (inoutL n (n + m) P) l3) (putS n q r (inoutL n (n + m) P) l3) ∧
    KerEq (inoutL n (n + m + q) (putM (n + m) q r P l3)) (putS n q r (inoutL n (n + m) P) l3) := by
  have lS : (inoutL n (n + m) P).length = n + q := by rw [inout_len (by omega) (by omega)]; omega
  have kT := ks_putM (n := n + m) (m := q) (q := r) hP h3
  have kR := ks_putM (n := n) (m := q) (q := r) lS h3
  have lT := kT.len
  have lR := kR.len
  have e1 : ∀ i j, i < n + q + r → j < n + q + r → (co (putM n q r (inoutL n (n + m) P) l3) i = co (putM n q r (inoutL n (n + m) P) l3) j ↔ co (putM (n + m) q r P l3) (eA n m i) = co (putM (n + m) q r P l3) (eA n m j)) := fun i j hi hj => by
    rw [kR.eq i j hi hj, kT.eq _ _ (by unfold eA; split <;> omega) (by unfold eA; split <;> omega)]
    exact connA hP hi hj
  have sS : putS n q r (inoutL n (n + m) P) l3 = inoutL n (n + q) (putM n q r (inoutL n (n + m) P) l3) := rfl
  have outS : ∀ x, x < n + m + q → (x < n ∨ n + m ≤ x) → co P x ∈ inoutL n (n + m) P := fun x hx ho => (inout_mem (by omega) (by omega)).mpr ⟨x, ho, by omega, rfl⟩
  constructor
  · rw [sS]
    refine two_hid (e := eA n m) (ι := id) (oT := fun x => x < n ∨ n + m + q ≤ x) (oR := fun i => i < n ∨ n + q ≤ i) lT lR hP (fun i hi => by unfold eA; split <;> omega) (fun p hp => by show p < _; omega) e1 ?_ (fun _ _ _ _ h => h) ?_ ?_ ?_ ?_ ?_ ?_ ?_
    · intro p hp hn y hy c
      have c := (kT.eq _ _ (by show p < _; omega) hy).mp c
      have kp := Conn.keep (g := fun x => decide (x < n + m + q ∧ co P x = co P p)) (fun x y h => ?_) c
      · have : decide (p < n + m + q ∧ co P p = co P p) = true := decide_eq_true ⟨hp, rfl⟩
        have z : decide (y < n + m + q ∧ co P y = co P p) = true := by rw [← this]; exact kp.symm
        have z := of_decide_eq_true z
        exact ⟨y, z.1, rfl, z.2⟩
      · rcases h with ⟨a, b, c⟩ | ⟨a, b, ha, hb, rfl, rfl, c⟩
        · show decide _ = decide _
          rw [c]
          exact decide_eq_decide.mpr ⟨fun z => ⟨b, z.2⟩, fun z => ⟨a, z.2⟩⟩
        · have no : ∀ a, ¬ (n + m + a < n + m + q ∧ co P (n + m + a) = co P p) := fun a z => hn (by rw [← z.2]; exact outS _ z.1 (.inr (by omega)))
          show decide _ = decide _
          rw [decide_eq_false (no a), decide_eq_false (no b)]
    · intro p p' hp hp' e
      exact (kT.eq _ _ (by show p < _; omega) (by show p' < _; omega)).mpr (.ed (.inl ⟨hp, hp', e⟩))
    · intro x hx
      by_cases c : x < n + m + q
      · by_cases d : co P x ∈ inoutL n (n + m) P
        · left
          have md := ixf_co d
          rw [lS] at md
          refine ⟨(inoutL n (n + m) P).idxOf (co P x), by have := md.1; omega, (kT.eq _ _ (by have := md.1; unfold eA; split <;> omega) hx).mpr (.ed (.inl ⟨?_, c, ?_⟩))⟩
          · have := md.1
            unfold eA; split <;> omega
          · rw [← cutA_co hP md.1, md.2]
        · exact .inr ⟨x, c, rfl, d⟩
      · left
        exact ⟨x - m, by omega, by rw [eA_hi (by omega), show x - m + m = x by omega]⟩
    · intro x hx o
      rcases o with o | o
      · exact ⟨x, by omega, .inl o, eA_lo o⟩
      · exact ⟨x - m, by omega, .inr (by omega), by rw [eA_hi (by omega)]; omega⟩
    · intro i hi o
      rcases o with o | o
      · exact .inl (by rw [eA_lo o]; exact o)
      · exact .inr (by rw [eA_hi (by omega)]; omega)
    · intro i p hi hp e
      have e : eA n m i = p := e
      refine outS p hp ?_
      unfold eA at e
      split at e <;> omega
    · intro k
      rw [inout_mem (by omega) (by omega), lT]
      exact ⟨fun ⟨p, a, b, c⟩ => ⟨p, b, a, c⟩, fun ⟨p, a, b, c⟩ => ⟨p, b, a, c⟩⟩
    · intro k
      rw [inout_mem (by omega) (by omega), lR]
      exact ⟨fun ⟨p, a, b, c⟩ => ⟨p, b, a, c⟩, fun ⟨p, a, b, c⟩ => ⟨p, b, a, c⟩⟩
  · rw [sS]
    refine ⟨by rw [inout_len (by omega) (by omega), inout_len (by omega) (by omega)]; omega, fun i j hi hj => ?_⟩
    rw [inout_len (by omega) (by omega), lT] at hi hj
    have f : ∀ i, i < n + (n + m + q + r - (n + m + q)) → ∃ p, p < n + q + r ∧ co (inoutL n (n + m + q) (putM (n + m) q r P l3)) i = co (putM (n + m) q r P l3) (eA n m p) ∧ co (inoutL n (n + q) (putM n q r (inoutL n (n + m) P) l3)) i = co (putM n q r (inoutL n (n + m) P) l3) p := fun i hi => by
      rw [inout_co (by omega) (by omega) i (by omega), inout_co (by omega) (by omega) i (by omega)]
      by_cases c : i < n
      · exact ⟨i, by omega, by rw [if_pos c, eA_lo c], by rw [if_pos c]⟩
      · refine ⟨n + q + (i - n), by omega, ?_, by rw [if_neg c]⟩
        rw [if_neg c, eA_hi (by omega)]
        congr 1
        omega
    obtain ⟨p, hp, a1, a2⟩ := f i hi
    obtain ⟨p', hp', b1, b2⟩ := f j hj
    rw [a1, a2, b1, b2]
    exact (e1 p p' hp hp').symm
theorem eA_add {n m q a : Nat} : eA (n + m) q (n + a) = n + eA m q a := by
  unfold eA
  split <;> split <;> omega
theorem connB {n m q r : Nat} {P l1 : List Int} (hP : P.length = m + q + r) {i j : Nat} (hi : i < n + m + r) (hj : j < n + m + r) :
    Conn (Fput n m r l1 (inoutL m (m + q) P)) i j ↔ Conn (Fput n m (q + r) l1 P) (eA (n + m) q i) (eA (n + m) q j) := by
  have lS : (inoutL m (m + q) P).length = m + r := by rw [inout_len (by omega) (by omega)]; omega
  constructor
  · refine Conn.map (f := eA (n + m) q) fun i j h => .ed ?_
    rcases h with ⟨a, b, c⟩ | ⟨a, b, ha, hb, rfl, rfl, c⟩
    · exact .inl ⟨by rw [eA_lo a]; exact a, by rw [eA_lo b]; exact b, by rw [eA_lo a, eA_lo b]; exact c⟩
    · rw [cutA_co hP ha, cutA_co hP hb] at c
      exact .inr ⟨eA m q a, eA m q b, by unfold eA; split <;> omega, by unfold eA; split <;> omega, eA_add, eA_add, c⟩
  · intro h
    have like : ∀ a, a < m + r → Conn (Fput n m r l1 (inoutL m (m + q) P)) (n + (inoutL m (m + q) P).idxOf (co P (eA m q a))) (n + a) := fun a ha => by
      have hx : co P (eA m q a) ∈ inoutL m (m + q) P := by rw [← cutA_co hP ha]; exact co_mem (by omega)
      have md := ixf_co hx
      rw [lS] at md
      exact .ed (.inr ⟨_, a, md.1, ha, rfl, rfl, by rw [md.2, cutA_co hP ha]⟩)
    have cm := Conn.map (F := Fput n m r l1 (inoutL m (m + q) P)) (f := fun x => if x < n then x else n + (inoutL m (m + q) P).idxOf (co P (x - n))) (fun x y h => ?_) h
    · have fin : ∀ i, i < n + m + r → Conn (Fput n m r l1 (inoutL m (m + q) P)) ((fun x => if x < n then x else n + (inoutL m (m + q) P).idxOf (co P (x - n))) (eA (n + m) q i)) i := fun i hi => by
        show Conn _ (if _ then _ else _) i
        by_cases c : i < n
        · rw [eA_lo (by omega), if_pos c]
          exact .rf _
        · obtain ⟨a, rfl⟩ : ∃ a, i = n + a := ⟨i - n, by omega⟩
          rw [eA_add, if_neg (by omega), Nat.add_sub_cancel_left]
          exact like a (by omega)
      exact .tr (.sy (fin i hi)) (.tr cm (fin j hj))
    · rcases h with ⟨a, b, c⟩ | ⟨a, b, ha, hb, rfl, rfl, c⟩
      · have go : ∀ x, x < n + m → Conn (Fput n m r l1 (inoutL m (m + q) P)) ((fun x => if x < n then x else n + (inoutL m (m + q) P).idxOf (co P (x - n))) x) x := fun x hx => by
          show Conn _ (if _ then _ else _) x
          by_cases d : x < n
          · rw [if_pos d]
            exact .rf _
          · obtain ⟨a, rfl⟩ : ∃ a, x = n + a := ⟨x - n, by omega⟩
            have := like a (by omega)
            rw [eA_lo (by omega)] at this
            rw [if_neg d, Nat.add_sub_cancel_left]
            exact this
        exact .tr (go x a) (.tr (.ed (.inl ⟨a, b, c⟩)) (.sy (go y b)))
      · show Conn _ (if _ then _ else _) (if _ then _ else _)
        rw [if_neg (by omega), if_neg (by omega), Nat.add_sub_cancel_left, Nat.add_sub_cancel_left, c]
        exact .rf _
theorem assocB {n m q r : Nat} {P l1 : List Int} (hP : P.length = m + q + r) (h1 : l1.length = n + m) :
    hid (putM n m (q + r) l1 P) (inoutL n (n + m + q) (putM n m (q + r) l1 P)) = hid P (inoutL m (m + q) P) + hid (putM n m r l1 (inoutL m (m + q) P)) (putS n m r l1 (inoutL m (m + q) P)) ∧
    KerEq (inoutL n (n + m + q) (putM n m (q + r) l1 P)) (putS n m r l1 (inoutL m (m + q) P)) := by
  have lS : (inoutL m (m + q) P).length = m + r := by rw [inout_len (by omega) (by omega)]; omega
  have kT := ks_putM (n := n) (m := m) (q := q + r) h1 (l2 := P) (by omega)
  have kR := ks_putM (n := n) (m := m) (q := r) h1 lS
  have lT := kT.len
  have lR := kR.len
  have e1 : ∀ i j, i < n + m + r → j < n + m + r → (co (putM n m r l1 (inoutL m (m + q) P)) i = co (putM n m r l1 (inoutL m (m + q) P)) j ↔ co (putM n m (q + r) l1 P) (eA (n + m) q i) = co (putM n m (q + r) l1 P) (eA (n + m) q j)) := fun i j hi hj => by
    rw [kR.eq i j hi hj, kT.eq _ _ (by unfold eA; split <;> omega) (by unfold eA; split <;> omega)]
    exact connB hP hi hj
  have sS : putS n m r l1 (inoutL m (m + q) P) = inoutL n (n + m) (putM n m r l1 (inoutL m (m + q) P)) := rfl
  have outS : ∀ x, x < m + q + r → (x < m ∨ m + q ≤ x) → co P x ∈ inoutL m (m + q) P := fun x hx ho => (inout_mem (by omega) (by omega)).mpr ⟨x, ho, by omega, rfl⟩
  constructor
  · rw [sS]
    refine two_hid (e := eA (n + m) q) (ι := fun p => n + p) (oT := fun x => x < n ∨ n + m + q ≤ x) (oR := fun i => i < n ∨ n + m ≤ i) lT lR hP (fun i hi => by unfold eA; split <;> omega) (fun p hp => by show n + p < _; omega) e1 ?_ (fun _ _ _ _ h => Nat.add_left_cancel h) ?_ ?_ ?_ ?_ ?_ ?_ ?_
    · intro p hp hn y hy c
      have c := (kT.eq _ _ (by show n + p < _; omega) hy).mp c
      have kp := Conn.keep (g := fun x => decide (n ≤ x ∧ co P (x - n) = co P p)) (fun x y h => ?_) c
      · have : decide (n ≤ n + p ∧ co P (n + p - n) = co P p) = true := decide_eq_true ⟨by omega, by rw [Nat.add_sub_cancel_left]⟩
        have z : decide (n ≤ y ∧ co P (y - n) = co P p) = true := by rw [← this]; exact kp.symm
        have z := of_decide_eq_true z
        exact ⟨y - n, by omega, by show y = n + (y - n); omega, z.2⟩
      · rcases h with ⟨a, b, c⟩ | ⟨a, b, ha, hb, rfl, rfl, c⟩
        · have no : ∀ x, x < n + m → ¬ (n ≤ x ∧ co P (x - n) = co P p) := fun x hx z => hn (by rw [← z.2]; exact outS _ (by omega) (.inl (by omega)))
          show decide _ = decide _
          rw [decide_eq_false (no x a), decide_eq_false (no y b)]
        · show decide _ = decide _
          rw [Nat.add_sub_cancel_left, Nat.add_sub_cancel_left, c]
          exact decide_eq_decide.mpr ⟨fun z => ⟨by omega, z.2⟩, fun z => ⟨by omega, z.2⟩⟩
    · intro p p' hp hp' e
      exact (kT.eq _ _ (by show n + p < _; omega) (by show n + p' < _; omega)).mpr (.ed (.inr ⟨p, p', by omega, by omega, rfl, rfl, e⟩))
    · intro x hx
      by_cases c : x < n
      · exact .inl ⟨x, by omega, by rw [eA_lo (by omega)]⟩
      · obtain ⟨p, rfl⟩ : ∃ p, x = n + p := ⟨x - n, by omega⟩
        by_cases d : co P p ∈ inoutL m (m + q) P
        · left
          have md := ixf_co d
          rw [lS] at md
          refine ⟨n + (inoutL m (m + q) P).idxOf (co P p), by have := md.1; omega, (kT.eq _ _ (by have := md.1; unfold eA; split <;> omega) hx).mpr (.ed (.inr ⟨eA m q ((inoutL m (m + q) P).idxOf (co P p)), p, ?_, by omega, eA_add, rfl, ?_⟩))⟩
          · have := md.1
            unfold eA; split <;> omega
          · rw [← cutA_co hP md.1, md.2]
        · exact .inr ⟨p, by omega, rfl, d⟩
    · intro x hx o
      rcases o with o | o
      · exact ⟨x, by omega, .inl o, eA_lo (by omega)⟩
      · exact ⟨x - q, by omega, .inr (by omega), by rw [eA_hi (by omega)]; omega⟩
    · intro i hi o
      rcases o with o | o
      · exact .inl (by rw [eA_lo (by omega)]; exact o)
      · exact .inr (by rw [eA_hi (by omega)]; omega)
    · intro i p hi hp e
      have e : eA (n + m) q i = n + p := e
      refine outS p hp ?_
      unfold eA at e
      split at e <;> omega
    · intro k
      rw [inout_mem (by omega) (by omega), lT]
      exact ⟨fun ⟨p, a, b, c⟩ => ⟨p, b, a, c⟩, fun ⟨p, a, b, c⟩ => ⟨p, b, a, c⟩⟩
    · intro k
      rw [inout_mem (by omega) (by omega), lR]
      exact ⟨fun ⟨p, a, b, c⟩ => ⟨p, b, a, c⟩, fun ⟨p, a, b, c⟩ => ⟨p, b, a, c⟩⟩
  · rw [sS]
    refine ⟨by rw [inout_len (by omega) (by omega), inout_len (by omega) (by omega)]; omega, fun i j hi hj => ?_⟩
    rw [inout_len (by omega) (by omega), lT] at hi hj
    have f : ∀ i, i < n + (n + m + (q + r) - (n + m + q)) → ∃ p, p < n + m + r ∧ co (inoutL n (n + m + q) (putM n m (q + r) l1 P)) i = co (putM n m (q + r) l1 P) (eA (n + m) q p) ∧ co (inoutL n (n + m) (putM n m r l1 (inoutL m (m + q) P))) i = co (putM n m r l1 (inoutL m (m + q) P)) p := fun i hi => by
      rw [inout_co (by omega) (by omega) i (by omega), inout_co (by omega) (by omega) i (by omega)]
      by_cases c : i < n
      · exact ⟨i, by omega, by rw [if_pos c, eA_lo (by omega)], by rw [if_pos c]⟩
      · refine ⟨n + m + (i - n), by omega, ?_, by rw [if_neg c]⟩
        rw [if_neg c, eA_hi (by omega)]
        congr 1
        omega
    obtain ⟨p, hp, a1, a2⟩ := f i hi
    obtain ⟨p', hp', b1, b2⟩ := f j hj
    rw [a1, a2, b1, b2]
    exact (e1 p p' hp hp').symm
theorem ker_both {n m q r : Nat} {l1 l2 l3 : List Int} (h1 : l1.length = n + m) (h2 : l2.length = m + q) (h3 : l3.length = q + r) : KerEq (putM (n + m) q r (putM n m q l1 l2) l3) (putM n m (q + r) l1 (putM m q r l2 l3)) := by
  have kP := ks_putM h1 h2
  have kQ := ks_putM h2 h3
  have kT := ks_putM (n := n + m) (m := q) (q := r) kP.len h3
  have kU := ks_putM (n := n) (m := m) (q := q + r) h1 (l2 := putM m q r l2 l3) (by have := kQ.len; omega)
  refine Ks.ker (N := n + m + q + r) (E := Fput n m (q + r) l1 (putM m q r l2 l3)) (kT.congr (fun i j h => ?_) (fun i j h => ?_) (fun i j h => ?_)) ⟨by have := kU.len; omega, fun i j h => ?_, fun i j hi hj => kU.eq i j (by omega) (by omega)⟩
  · have := kU.bd i j h
    omega
  · rcases h with ⟨a, b, c⟩ | ⟨a, b, ha, hb, rfl, rfl, c⟩
    · refine ((kP.eq i j a b).mp c).mono fun i j h => .ed ?_
      rcases h with h | ⟨a, b, ha, hb, rfl, rfl, c⟩
      · exact .inl h
      · exact .inr ⟨a, b, by omega, by omega, rfl, rfl, (kQ.eq a b (by omega) (by omega)).mpr (.ed (.inl ⟨ha, hb, c⟩))⟩
    · exact .ed (.inr ⟨m + a, m + b, by omega, by omega, by omega, by omega, (kQ.eq _ _ (by omega) (by omega)).mpr (.ed (.inr ⟨a, b, ha, hb, rfl, rfl, c⟩))⟩)
  · rcases h with ⟨a, b, c⟩ | ⟨a, b, ha, hb, rfl, rfl, c⟩
    · exact .ed (.inl ⟨by omega, by omega, (kP.eq i j (by omega) (by omega)).mpr (.ed (.inl ⟨a, b, c⟩))⟩)
    · refine ((kQ.eq a b (by omega) (by omega)).mp c).map (f := fun x => n + x) fun i j h => .ed ?_
      rcases h with ⟨a, b, c⟩ | ⟨a, b, ha, hb, rfl, rfl, c⟩
      · exact .inl ⟨by omega, by omega, (kP.eq _ _ (by omega) (by omega)).mpr (.ed (.inr ⟨i, j, a, b, rfl, rfl, c⟩))⟩
      · exact .inr ⟨a, b, ha, hb, by omega, by omega, c⟩
  · have := kU.bd i j h
    omega
theorem ker_cut {a b : List Int} (k : KerEq a b) (sel : List Int → List Int) (hm : ∀ (g : Int → Int) (z : List Int), sel (z.map g) = (sel z).map g) (hs : ∀ z, ∀ x ∈ sel z, x ∈ z) : hid b (sel b) = hid a (sel a) ∧ blocksOf (sel b) = blocksOf (sel a) := by
  obtain ⟨g, e, inj⟩ := k.img
  refine ⟨hid_map (fun i => i) (fun i hi => by rw [k.1]; exact hi) (fun i hi => ⟨i, by rw [← k.1]; exact hi, rfl⟩) (fun i j hi hj => by rw [← k.1] at hi hj; exact (k.2 i j hi hj).symm) fun i hi => ?_, ?_⟩
  · have hi' : i < a.length := by rw [k.1]; exact hi
    rw [e, hm, co_map_lt hi']
    constructor
    · intro h
      obtain ⟨x, hx, ex⟩ := List.mem_map.mp h
      rw [← inj x (hs a x hx) (co a i) (co_mem hi') ex]
      exact hx
    · exact fun h => List.mem_map.mpr ⟨_, h, rfl⟩
  · rw [e, hm]
    exact blocksOf_map fun x hx y hy => inj x (hs a x hx) y (hs a y hy)
theorem inoutL_map (a b : Nat) (g : Int → Int) (z : List Int) : inoutL a b (z.map g) = (inoutL a b z).map g := by
  unfold inoutL
  rw [List.map_append, List.map_take, List.map_drop]
theorem inoutL_mem (a b : Nat) (z : List Int) : ∀ x ∈ inoutL a b z, x ∈ z := fun x hx => by
  unfold inoutL at hx
  exact (List.mem_append.mp hx).elim List.mem_of_mem_take List.mem_of_mem_drop
/-- the loops and the diagram of three, in both ways -/
theorem put_assoc {n m q r : Nat} {l1 l2 l3 : List Int} (h1 : l1.length = n + m) (h2 : l2.length = m + q) (h3 : l3.length = q + r) :
    hid (putM n m q l1 l2) (putS n m q l1 l2) + hid (putM n q r (putS n m q l1 l2) l3) (putS n q r (putS n m q l1 l2) l3) = hid (putM m q r l2 l3) (putS m q r l2 l3) + hid (putM n m r l1 (putS m q r l2 l3)) (putS n m r l1 (putS m q r l2 l3)) ∧
    blocksOf (putS n q r (putS n m q l1 l2) l3) = blocksOf (putS n m r l1 (putS m q r l2 l3)) := by
  obtain ⟨a1, a2⟩ := assocA (ks_putM h1 h2).len h3
  obtain ⟨b1, b2⟩ := assocB (ks_putM h2 h3).len h1
  obtain ⟨c1, c2⟩ := ker_cut (ker_both h1 h2 h3) (inoutL n (n + m + q)) (inoutL_map _ _) (inoutL_mem _ _)
  have s1 : putS n m q l1 l2 = inoutL n (n + m) (putM n m q l1 l2) := rfl
  have s2 : putS m q r l2 l3 = inoutL m (m + q) (putM m q r l2 l3) := rfl
  rw [s1, s2, ← a1, ← b1, a2.blocks, b2.blocks]
  exact ⟨c1.symm, c2.symm⟩
/-! ### the unit -/
def uL (n : Nat) : List Int := ixs n ++ ixs n
theorem uL_len (n : Nat) : (uL n).length = n + n := by
  unfold uL
  rw [List.length_append, ixs_len']
theorem uL_co {n i : Nat} (h : i < n + n) : co (uL n) i = ((if i < n then i else i - n : Nat) : Int) := by
  unfold uL
  by_cases c : i < n
  · rw [co_app_l (by rw [ixs_len']; exact c), co_ixs c, if_pos c]
  · have := co_app_r (a := ixs n) (b := ixs n) (i := i - n) (by rw [ixs_len']; omega)
    rw [ixs_len', show n + (i - n) = i by omega] at this
    rw [this, co_ixs (by omega), if_neg c]
theorem hid_zero {ms shown : List Int} (h : ∀ k ∈ ms, k ∈ shown) : hid ms shown = 0 := (hid_is (L := []) List.nodup_nil fun k => ⟨fun z => (nomatch z), fun z => absurd (h k z.1) z.2⟩).symm
theorem put_unitL {n m : Nat} {l : List Int} (hl : l.length = n + m) : hid (putM n n m (uL n) l) (putS n n m (uL n) l) = 0 ∧ blocksOf (putS n n m (uL n) l) = blocksOf l := by
  have kM := ks_putM (uL_len n) hl
  have lM := kM.len
  have sS : putS n n m (uL n) l = inoutL n (n + n) (putM n n m (uL n) l) := rfl
  have st : ∀ i, i < n → Conn (Fput n n m (uL n) l) i (n + i) := fun i hi => .ed (.inl ⟨by omega, by omega, by rw [uL_co (by omega), uL_co (by omega), if_pos hi, if_neg (by omega), Nat.add_sub_cancel_left]⟩)
  constructor
  · refine hid_zero fun k hk => ?_
    obtain ⟨x, hx, rfl⟩ := mem_get hk
    rw [lM] at hx
    rw [sS, inout_mem (by omega) (by omega), lM]
    by_cases c : x < n ∨ n + n ≤ x
    · exact ⟨x, c, hx, rfl⟩
    · refine ⟨x - n, .inl (by omega), by omega, (kM.eq _ _ (by omega) hx).mpr ?_⟩
      have := st (x - n) (by omega)
      rw [show n + (x - n) = x by omega] at this
      exact this
  · refine (KerEq.blocks ⟨?_, fun i j hi hj => ?_⟩ : _)
    · rw [sS, inout_len (by omega) (by omega), lM]
      omega
    · have f : ∀ i, i < n + m → ∃ p, p < n + n + m ∧ co (putS n n m (uL n) l) i = co (putM n n m (uL n) l) p ∧ Conn (Fput n n m (uL n) l) p (n + i) ∧ (fun x => if x < n then co l x else co l (x - n)) p = co l i := fun i hi => by
        rw [sS, inout_co (by omega) (by omega) i (by omega)]
        by_cases c : i < n
        · exact ⟨i, by omega, if_pos c, st i c, if_pos c⟩
        · refine ⟨n + n + (i - n), by omega, if_neg c, ?_, ?_⟩
          · rw [show n + n + (i - n) = n + i by omega]
            exact .rf _
          · show (if _ then _ else _) = _
            rw [if_neg (by omega), show n + n + (i - n) - n = i by omega]
      rw [hl] at hi hj
      obtain ⟨p, hp, a1, a2, a3⟩ := f i hi
      obtain ⟨p', hp', b1, b2, b3⟩ := f j hj
      rw [a1, b1, kM.eq p p' hp hp']
      constructor
      · intro e
        exact .tr a2 (.tr (.ed (.inr ⟨i, j, hi, hj, rfl, rfl, e⟩)) (.sy b2))
      · intro c
        rw [← a3, ← b3]
        refine Conn.keep (g := fun x => if x < n then co l x else co l (x - n)) (fun x y h => ?_) c
        rcases h with ⟨a, b, c⟩ | ⟨a, b, ha, hb, rfl, rfl, c⟩
        · rw [uL_co a, uL_co b] at c
          have c := Int.ofNat.inj c
          have g : ∀ x, (if x < n then co l x else co l (x - n)) = co l (if x < n then x else x - n) := fun x => by split <;> rfl
          show (if _ then _ else _) = (if _ then _ else _)
          rw [g, g, c]
        · show (if _ then _ else _) = (if _ then _ else _)
          rw [if_neg (by omega), if_neg (by omega), Nat.add_sub_cancel_left, Nat.add_sub_cancel_left, c]
theorem put_unitR {n m : Nat} {l : List Int} (hl : l.length = n + m) : hid (putM n m m l (uL m)) (putS n m m l (uL m)) = 0 ∧ blocksOf (putS n m m l (uL m)) = blocksOf l := by
  have kM := ks_putM hl (uL_len m)
  have lM := kM.len
  have sS : putS n m m l (uL m) = inoutL n (n + m) (putM n m m l (uL m)) := rfl
  have st : ∀ i, i < m → Conn (Fput n m m l (uL m)) (n + m + i) (n + i) := fun i hi => .ed (.inr ⟨m + i, i, by omega, by omega, by omega, rfl, by rw [uL_co (by omega), uL_co (by omega), if_pos hi, if_neg (by omega), Nat.add_sub_cancel_left]⟩)
  constructor
  · refine hid_zero fun k hk => ?_
    obtain ⟨x, hx, rfl⟩ := mem_get hk
    rw [lM] at hx
    rw [sS, inout_mem (by omega) (by omega), lM]
    by_cases c : x < n ∨ n + m ≤ x
    · exact ⟨x, c, hx, rfl⟩
    · refine ⟨x + m, .inr (by omega), by omega, (kM.eq _ _ (by omega) hx).mpr ?_⟩
      have := st (x - n) (by omega)
      rw [show n + (x - n) = x by omega, show n + m + (x - n) = x + m by omega] at this
      exact this
  · refine (KerEq.blocks ⟨?_, fun i j hi hj => ?_⟩ : _)
    · rw [sS, inout_len (by omega) (by omega), lM]
      omega
    · have f : ∀ i, i < n + m → ∃ p, p < n + m + m ∧ co (putS n m m l (uL m)) i = co (putM n m m l (uL m)) p ∧ Conn (Fput n m m l (uL m)) p i ∧ (fun x => if x < n + m then co l x else co l (x - m)) p = co l i := fun i hi => by
        rw [sS, inout_co (by omega) (by omega) i (by omega)]
        by_cases c : i < n
        · exact ⟨i, by omega, if_pos c, .rf _, if_pos (by omega)⟩
        · refine ⟨n + m + (i - n), by omega, if_neg c, ?_, ?_⟩
          · have := st (i - n) (by omega)
            rw [show n + (i - n) = i by omega] at this
            exact this
          · show (if _ then _ else _) = _
            rw [if_neg (by omega), show n + m + (i - n) - m = i by omega]
      rw [hl] at hi hj
      obtain ⟨p, hp, a1, a2, a3⟩ := f i hi
      obtain ⟨p', hp', b1, b2, b3⟩ := f j hj
      rw [a1, b1, kM.eq p p' hp hp']
      constructor
      · intro e
        exact .tr a2 (.tr (.ed (.inl ⟨hi, hj, e⟩)) (.sy b2))
      · intro c
        rw [← a3, ← b3]
        refine Conn.keep (g := fun x => if x < n + m then co l x else co l (x - m)) (fun x y h => ?_) c
        have g : ∀ a, a < m + m → (if n + a < n + m then co l (n + a) else co l (n + a - m)) = co l (n + if a < m then a else a - m) := fun a ha => by
          by_cases d : a < m
          · rw [if_pos (by omega), if_pos d]
          · rw [if_neg (by omega), if_neg d, show n + a - m = n + (a - m) by omega]
        rcases h with ⟨a, b, c⟩ | ⟨a, b, ha, hb, rfl, rfl, c⟩
        · show (if _ then _ else _) = (if _ then _ else _)
          rw [if_pos a, if_pos b, c]
        · rw [uL_co ha, uL_co hb] at c
          have c := Int.ofNat.inj c
          show (if _ then _ else _) = (if _ then _ else _)
          rw [g a ha, g b hb, c]

/-! ### turned over, one above another -/
theorem iso_ks {N : Nat} {a b : List Int} {E F : Nat → Nat → Prop} {g h : Nat → Nat} (ka : Ks N a E) (kb : Ks N b F) (hg : ∀ i, i < N → g i < N ∧ h (g i) = i)
    (eg : ∀ i j, E i j → Conn F (g i) (g j)) (eh : ∀ i j, F i j → Conn E (h i) (h j)) : ∀ i j, i < N → j < N → (co a i = co a j ↔ co b (g i) = co b (g j)) := fun i j hi hj => by
  rw [ka.eq i j hi hj, kb.eq _ _ (hg i hi).1 (hg j hj).1]
  constructor
  · exact Conn.map (f := g) eg
  · intro c
    have := Conn.map (f := h) eh c
    rw [(hg i hi).2, (hg j hj).2] at this
    exact this
def ovL (n : Nat) (l : List Int) : List Int := l.drop n ++ l.take n
theorem ovL_len {n : Nat} {l : List Int} (h : n ≤ l.length) : (ovL n l).length = l.length := by
  unfold ovL
  rw [List.length_append, List.length_drop, List.length_take]
  omega
theorem ovL_co {n m : Nat} {l : List Int} (hl : l.length = n + m) {i : Nat} (hi : i < m + n) : co (ovL n l) i = co l (if i < m then n + i else i - m) := by
  unfold ovL
  have ld : (l.drop n).length = m := by rw [List.length_drop]; omega
  by_cases c : i < m
  · rw [if_pos c, co_app_l (by omega), co_drop]
  · rw [if_neg c]
    have := co_app_r (a := l.drop n) (b := l.take n) (i := i - m) (by rw [List.length_take]; omega)
    rw [ld, show m + (i - m) = i by omega] at this
    rw [this, co_takeB (by omega)]
def gO (n m q i : Nat) : Nat := if i < q then n + m + i else if i < q + m then n + (i - q) else i - (q + m)
theorem put_over {n m q : Nat} {l1 l2 : List Int} (h1 : l1.length = n + m) (h2 : l2.length = m + q) :
    hid (putM q m n (ovL m l2) (ovL n l1)) (putS q m n (ovL m l2) (ovL n l1)) = hid (putM n m q l1 l2) (putS n m q l1 l2) ∧ blocksOf (putS q m n (ovL m l2) (ovL n l1)) = blocksOf (ovL n (putS n m q l1 l2)) := by
  have L1 : (ovL n l1).length = m + n := by rw [ovL_len (by omega)]; omega
  have L2 : (ovL m l2).length = q + m := by rw [ovL_len (by omega)]; omega
  have kA := ks_putM (n := q) (m := m) (q := n) L2 L1
  have kB := ks_putM h1 h2
  have lA := kA.len
  have lB := kB.len
  have g1 : ∀ i, i < q + m + n → gO n m q i < n + m + q ∧ gO q m n (gO n m q i) = i := fun i hi => by
    unfold gO
    refine ⟨?_, ?_⟩
    · split
      · omega
      · split <;> omega
    by_cases c : i < q
    · rw [if_pos c, if_neg (by omega), if_neg (by omega)]
      omega
    · rw [if_neg c]
      by_cases d : i < q + m
      · rw [if_pos d, if_neg (by omega), if_pos (by omega)]
        omega
      · rw [if_neg d, if_pos (by omega)]
        omega
  have lo : ∀ i, i < q + m → gO n m q i = n + (if i < q then m + i else i - q) := fun i hi => by
    unfold gO
    by_cases c : i < q
    · rw [if_pos c, if_pos c]
      omega
    · rw [if_neg c, if_neg c, if_pos hi]
  have hi : ∀ a, a < m + n → gO n m q (q + a) = if a < m then n + a else a - m := fun a ha => by
    unfold gO
    rw [if_neg (by omega)]
    by_cases c : a < m
    · rw [if_pos (by omega), if_pos c]
      omega
    · rw [if_neg (by omega), if_neg c]
      omega
  have e1 : ∀ i j, i < q + m + n → j < q + m + n → (co (putM q m n (ovL m l2) (ovL n l1)) i = co (putM q m n (ovL m l2) (ovL n l1)) j ↔ co (putM n m q l1 l2) (gO n m q i) = co (putM n m q l1 l2) (gO n m q j)) := by
    refine iso_ks (N := q + m + n) (h := gO q m n) kA ⟨by omega, fun i j h => by have := kB.bd i j h; omega, fun i j hi hj => kB.eq i j (by omega) (by omega)⟩ (fun i hi => ⟨by have := (g1 i hi).1; omega, (g1 i hi).2⟩) (fun i j h => .ed ?_) (fun i j h => .ed ?_)
    · rcases h with ⟨a, b, c⟩ | ⟨a, b, ha, hb, rfl, rfl, c⟩
      · rw [ovL_co h2 (by omega), ovL_co h2 (by omega)] at c
        exact .inr ⟨_, _, by split <;> omega, by split <;> omega, lo i a, lo j b, c⟩
      · rw [ovL_co h1 ha, ovL_co h1 hb] at c
        rw [hi a ha, hi b hb]
        exact .inl ⟨by split <;> omega, by split <;> omega, c⟩
    · have back1 : ∀ i, i < n + m → ∃ a, a < m + n ∧ gO q m n i = q + a ∧ (if a < m then n + a else a - m) = i := fun i hi => by
        unfold gO
        by_cases c : i < n
        · exact ⟨m + i, by omega, by rw [if_pos c]; omega, by rw [if_neg (by omega)]; omega⟩
        · exact ⟨i - n, by omega, by rw [if_neg c, if_pos hi], by rw [if_pos (by omega)]; omega⟩
      have back2 : ∀ a, a < m + q → gO q m n (n + a) < q + m ∧ (if gO q m n (n + a) < q then m + gO q m n (n + a) else gO q m n (n + a) - q) = a := fun a ha => by
        unfold gO
        rw [if_neg (by omega)]
        by_cases c : a < m
        · rw [if_pos (by omega)]
          exact ⟨by omega, by rw [if_neg (by omega)]; omega⟩
        · rw [if_neg (by omega)]
          exact ⟨by omega, by rw [if_pos (by omega)]; omega⟩
      rcases h with ⟨a, b, c⟩ | ⟨a, b, ha, hb, rfl, rfl, c⟩
      · obtain ⟨x, hx, e1, e2⟩ := back1 i a
        obtain ⟨y, hy, e3, e4⟩ := back1 j b
        exact .inr ⟨x, y, hx, hy, e1, e3, by rw [ovL_co h1 hx, ovL_co h1 hy, e2, e4]; exact c⟩
      · obtain ⟨x1, x2⟩ := back2 a ha
        obtain ⟨y1, y2⟩ := back2 b hb
        exact .inl ⟨x1, y1, by rw [ovL_co h2 (by omega), ovL_co h2 (by omega), x2, y2]; exact c⟩
  have sA : putS q m n (ovL m l2) (ovL n l1) = inoutL q (q + m) (putM q m n (ovL m l2) (ovL n l1)) := rfl
  have sB : putS n m q l1 l2 = inoutL n (n + m) (putM n m q l1 l2) := rfl
  have out : ∀ i, i < q + m + n → ((i < q ∨ q + m ≤ i) ↔ (gO n m q i < n ∨ n + m ≤ gO n m q i)) := fun i hi => by
    unfold gO
    by_cases c : i < q
    · rw [if_pos c]
      omega
    · rw [if_neg c]
      by_cases d : i < q + m
      · rw [if_pos d]
        omega
      · rw [if_neg d]
        omega
  have inv : ∀ x, x < n + m + q → gO q m n x < q + m + n ∧ gO n m q (gO q m n x) = x := fun x hx => by
    unfold gO
    refine ⟨?_, ?_⟩
    · split
      · omega
      · split <;> omega
    by_cases c : x < n
    · rw [if_pos c, if_neg (by omega), if_neg (by omega)]
      omega
    · rw [if_neg c]
      by_cases d : x < n + m
      · rw [if_pos d, if_neg (by omega), if_pos (by omega)]
        omega
      · rw [if_neg d, if_pos (by omega)]
        omega
  constructor
  · refine hid_map (gO n m q) (fun i hi => by rw [lA] at hi; rw [lB]; exact (g1 i hi).1) (fun i hi => ?_) (fun i j hi hj => by rw [lA] at hi hj; exact e1 i j hi hj) fun i hi => ?_
    · rw [lB] at hi
      exact ⟨gO q m n i, by rw [lA]; exact (inv i hi).1, by rw [(inv i hi).2]⟩
    · rw [lA] at hi
      rw [sA, sB, inout_mem (by omega) (by omega), inout_mem (by omega) (by omega)]
      constructor
      · rintro ⟨p, hp, hl, e⟩
        rw [lA] at hl
        exact ⟨gO n m q p, (out p hl).mp hp, by rw [lB]; exact (g1 p hl).1, (e1 p i hl hi).mp e⟩
      · rintro ⟨p, hp, hl, e⟩
        rw [lB] at hl
        have v := inv p hl
        refine ⟨gO q m n p, (out _ v.1).mpr (by rw [v.2]; exact hp), by rw [lA]; exact v.1, (e1 _ i v.1 hi).mpr (by rw [v.2]; exact e)⟩
  · have lS : (putS n m q l1 l2).length = n + q := by rw [sB, inout_len (by omega) (by omega)]; omega
    refine KerEq.blocks ⟨by rw [ovL_len (by omega), lS, sA, inout_len (by omega) (by omega)]; omega, fun i j hi hj => ?_⟩
    rw [ovL_len (by omega), lS] at hi hj
    have f : ∀ i, i < n + q → ∃ p, p < q + m + n ∧ co (putS q m n (ovL m l2) (ovL n l1)) i = co (putM q m n (ovL m l2) (ovL n l1)) p ∧ co (ovL n (putS n m q l1 l2)) i = co (putM n m q l1 l2) (gO n m q p) := fun i hi => by
      rw [ovL_co lS (by omega), sA, sB, inout_co (by omega) (by omega) i (by omega)]
      by_cases c : i < q
      · refine ⟨i, by omega, if_pos c, ?_⟩
        rw [if_pos c, inout_co (by omega) (by omega) _ (by omega), if_neg (by omega)]
        congr 1
        unfold gO
        rw [if_pos c]
        omega
      · refine ⟨q + m + (i - q), by omega, if_neg c, ?_⟩
        rw [if_neg c, inout_co (by omega) (by omega) _ (by omega), if_pos (by omega)]
        congr 1
        unfold gO
        rw [if_neg (by omega), if_neg (by omega)]
        omega
    obtain ⟨p, hp, a1, a2⟩ := f i hi
    obtain ⟨p', hp', b1, b2⟩ := f j hj
    rw [a1, a2, b1, b2]
    exact (e1 p p' hp hp').symm
/-! ### pieces of two that stand apart -/
theorem sum_hid {NT NA NB : Nat} {T A B sT sA sB : List Int} {e ι : Nat → Nat} (lT : T.length = NT) (lA : A.length = NA) (lB : B.length = NB)
    (he : ∀ i, i < NA → e i < NT) (hι : ∀ p, p < NB → ι p < NT)
    (h1 : ∀ i j, i < NA → j < NA → (co A i = co A j ↔ co T (e i) = co T (e j))) (h2 : ∀ i j, i < NB → j < NB → (co B i = co B j ↔ co T (ι i) = co T (ι j)))
    (h3 : ∀ i j, i < NA → j < NB → co T (e i) ≠ co T (ι j)) (h4 : ∀ x, x < NT → (∃ i, i < NA ∧ e i = x) ∨ ∃ j, j < NB ∧ ι j = x)
    (h5 : ∀ i, i < NA → (co A i ∈ sA ↔ co T (e i) ∈ sT)) (h6 : ∀ j, j < NB → (co B j ∈ sB ↔ co T (ι j) ∈ sT)) : hid T sT = hid A sA + hid B sB := by
  have memF : ∀ (b sb : List Int) k, k ∈ (seenL [] b).filter (fun k => decide (k ∉ sb)) ↔ k ∈ b ∧ k ∉ sb := fun b sb k => by
    rw [List.mem_filter, seenL_mem, decide_eq_true_eq]
    exact ⟨fun z => ⟨z.1.elim (fun q => nomatch q) id, z.2⟩, fun z => ⟨.inr z.1, z.2⟩⟩
  have ndF : ∀ (b sb : List Int), ((seenL [] b).filter fun k => decide (k ∉ sb)).Nodup := fun b sb => (seenL_nodup b [] List.nodup_nil).filter _
  have iA : ∀ {v}, v ∈ A → A.idxOf v < NA ∧ co A (A.idxOf v) = v := fun hv => by rw [← lA]; exact ixf_co hv
  have iB : ∀ {v}, v ∈ B → B.idxOf v < NB ∧ co B (B.idxOf v) = v := fun hv => by rw [← lB]; exact ixf_co hv
  have e0 : hid A sA + hid B sB = (((seenL [] A).filter fun k => decide (k ∉ sA)).map (fun v => co T (e (A.idxOf v))) ++ ((seenL [] B).filter fun k => decide (k ∉ sB)).map fun v => co T (ι (B.idxOf v))).length := by
    rw [List.length_append, List.length_map, List.length_map]
    rfl
  rw [e0]
  refine (hid_is ?_ fun k => ?_).symm
  · refine List.nodup_append.mpr ⟨?_, ?_, ?_⟩
    · refine List.Pairwise.map _ (R := fun x y => x ∈ A ∧ y ∈ A ∧ x ≠ y) (fun x y ⟨hx, hy, ne⟩ z => ?_) (List.Pairwise.imp_of_mem (fun hx hy ne => ⟨((memF _ _ _).mp hx).1, ((memF _ _ _).mp hy).1, ne⟩) (ndF A sA))
      have m1 := iA hx
      have m2 := iA hy
      have := (h1 _ _ m1.1 m2.1).mpr z
      rw [m1.2, m2.2] at this
      exact ne this
    · refine List.Pairwise.map _ (R := fun x y => x ∈ B ∧ y ∈ B ∧ x ≠ y) (fun x y ⟨hx, hy, ne⟩ z => ?_) (List.Pairwise.imp_of_mem (fun hx hy ne => ⟨((memF _ _ _).mp hx).1, ((memF _ _ _).mp hy).1, ne⟩) (ndF B sB))
      have m1 := iB hx
      have m2 := iB hy
      have := (h2 _ _ m1.1 m2.1).mpr z
      rw [m1.2, m2.2] at this
      exact ne this
    · intro x hx y hy z
      obtain ⟨v, hv, rfl⟩ := List.mem_map.mp hx
      obtain ⟨u, hu, rfl⟩ := List.mem_map.mp hy
      exact h3 _ _ (iA ((memF _ _ _).mp hv).1).1 (iB ((memF _ _ _).mp hu).1).1 z
  · rw [List.mem_append, List.mem_map, List.mem_map]
    constructor
    · rintro (⟨v, hv, rfl⟩ | ⟨v, hv, rfl⟩)
      · obtain ⟨hv, hn⟩ := (memF _ _ _).mp hv
        have m := iA hv
        exact ⟨co_mem (by rw [lT]; exact he _ m.1), fun z => hn (by rw [← m.2]; exact (h5 _ m.1).mpr z)⟩
      · obtain ⟨hv, hn⟩ := (memF _ _ _).mp hv
        have m := iB hv
        exact ⟨co_mem (by rw [lT]; exact hι _ m.1), fun z => hn (by rw [← m.2]; exact (h6 _ m.1).mpr z)⟩
    · rintro ⟨hk, hn⟩
      obtain ⟨x, hx, rfl⟩ := mem_get hk
      rw [lT] at hx
      rcases h4 x hx with ⟨i, hi, rfl⟩ | ⟨j, hj, rfl⟩
      · left
        have mi : co A i ∈ A := co_mem (by rw [lA]; exact hi)
        have m := iA mi
        exact ⟨co A i, (memF _ _ _).mpr ⟨mi, fun z => hn ((h5 i hi).mp z)⟩, (h1 _ _ m.1 hi).mp m.2⟩
      · right
        have mj : co B j ∈ B := co_mem (by rw [lB]; exact hj)
        have m := iB mj
        exact ⟨co B j, (memF _ _ _).mpr ⟨mj, fun z => hn ((h6 j hj).mp z)⟩, (h2 _ _ m.1 hj).mp m.2⟩

section
variable {P : Program} {w : World} {K : PySem.W.Frag} {mg : Str → Option Value} {base : Heap}
/-! ### over -/
def overL (n : Int) (l : List Int) : List Int := l.drop n.toNat ++ l.take n.toNat
theorem overL_map (n : Int) (g : Int → Int) (z : List Int) : overL n (z.map g) = (overL n z).map g := by
  unfold overL
  rw [List.map_append, List.map_drop, List.map_take]
theorem overL_mem {n : Int} {l : List Int} : ∀ x ∈ overL n l, x ∈ l := fun x hx => by
  rcases List.mem_append.mp hx with h | h
  · exact List.mem_of_mem_drop h
  · exact List.mem_of_mem_take h
theorem overL_len {n : Int} {l : List Int} : (overL n l).length = l.length := by
  unfold overL
  rw [List.length_append, List.length_drop, List.length_take]
  omega
theorem overL_count {n : Int} {l : List Int} (v : Int) : (overL n l).count v = l.count v := by
  unfold overL
  rw [List.count_append, Nat.add_comm, ← List.count_append, List.take_append_drop]
theorem DgAt.over {H : Hp} {v : V} {n m : Int} {l : List Int} (hl : (l.length : Int) = n + m) (hs : siz n m = true) (h : DGv H v m n (blocksOf (overL n (labL (blocksOf l) (n + m).toNat)))) : DgAt H v m n (overL n l) := by
  have z := siz_iff.mp hs
  refine ⟨?_, siz_iff.mpr (by omega), by rw [overL_len]; omega⟩
  rw [blocks_sel hl (overL_map n) overL_mem] at h
  exact h
theorem overL_ov (n : Nat) (l : List Int) : overL (n : Int) l = ovL n l := rfl
def spOver (CD : Addr) : Sp := fun vs H Q E => ∃ (v : V) (n m : Nat) (bs : List (List Int)), vs = [v] ∧ DGv H v n m bs ∧ DgOk n m bs ∧ ((¬ IsDg n m bs ∧ ∀ H', Same H H' → E (.ref CD) none H') ∨
  ∃ l : List Int, bs = blocksOf l ∧ siz n m = true ∧ l.length = n + m ∧ ∀ v' H', Same H H' → DgAt H' v' m n (ovL n l) → Q v' H')
theorem ok_over {f CB CD a_labels a_from_labels : Addr} {fd fd_labels fd_from_labels : FuncData} (F : Fun K "over" "over" s_over f fd)
    (G_labels : FnOk P w K mg base (L2N.CX P w) 4 a_labels fd_labels ["diagram"] (spLabels CD)) (g_labels : mg "labels" = some (.ref a_labels)) (k_labels : PySem.W.keepIn K (.ref a_labels) = true) (b_labels : Binds K fd_labels ["diagram"] [])
    (G_from_labels : FnOk P w K mg base (L2N.CX P w) 3 a_from_labels fd_from_labels ["n", "m", "marks"] (spFromLabels K CB)) (g_from_labels : mg "from_labels" = some (.ref a_from_labels)) (k_from_labels : PySem.W.keepIn K (.ref a_from_labels) = true) (b_from_labels : Binds K fd_from_labels ["n", "m", "marks"] []) :
    FnOk P w K mg base (L2N.CX P w) 5 f fd ["diagram"] (spOver CD) := by
  refine F.okXN sc_over (fun vs H Q E h => ?_) (fun cdv A outer s H vs Q E hr h => ?_)
  · obtain ⟨v, n, m, l, rfl, _⟩ := h
    rfl
  · obtain ⟨v, n', m', bs, rfl, hv, ok, q0⟩ := h
    refine ⟨_, (pss_cons (ps_set (i := 1) sc_over.nd rfl (.inl rfl) (pe_call G_labels (hr.mono (by decide)) rfl g_labels k_labels b_labels .nil (L2N.passes_call (L2N.takes_of rfl rfl rfl rfl) (fun _ _ _ _ h => h)) (pa_cons (pv 0) pa_nil)))
  (pss_cons (ps_asg (pv 0) (pg_tup rfl (pgs_cons (pg_name (i := 2) sc_over.nd rfl (.inl rfl)) (pgs_cons (pg_name (i := 3) sc_over.nd rfl (.inl rfl)) (pgs_cons (pg_name (i := 4) sc_over.nd rfl (.inl rfl)) pgs_nil)))))
  (pss_one (ps_ret (pe_call G_from_labels (hr.mono (by decide)) rfl g_from_labels k_from_labels b_from_labels .nil (L2N.passes_call (L2N.takes_of rfl rfl rfl rfl) (fun _ _ _ _ h => h)) (pa_cons (pv 3) (pa_cons (pv 2) (pa_cons (pe_op op_cat (pe_slice sl_list (pv 1) (po_some (pv 2)) po_none) (pe_slice sl_list (pv 1) po_none (po_some (pv 2)))) pa_nil)))))))), ?_⟩
    have szl : 20000 ≤ sizeLine := by decide
    rcases q0 with ⟨nd, q0⟩ | ⟨l, rfl, hs, hl, q⟩
    · exact ⟨_, rfl, v, n', m', _, rfl, hv, ok, fun _ H' s' => q0 H' s', fun dg => absurd dg nd⟩
    have d : DgAt H v n' m' l := ⟨hv, hs, by omega⟩
    have q : ∀ v' H', Same H H' → DgAt H' v' m' n' (overL n' l) → Q v' H' := q
    revert d q
    generalize (n' : Int) = n
    generalize (m' : Int) = m
    intro d q
    have z := siz_iff.mp d.2.1
    refine ⟨_, rfl, v, n, m, _, rfl, d.1, d.ok, (fun nd => absurd d.dg nd), fun _ D H1 s1 _ hD => ?_⟩
    have lL := labL_len (blocksOf l) (n + m).toNat
    generalize eL : labL (blocksOf l) (n + m).toNat = L at hD lL
    obtain ⟨t, vb, rfl, ht, _⟩ := DGv.same s1 d.1
    refine ⟨_, rfl, t, _, rfl, .inl (.inl ht), rfl, _, _, rfl, _, _, rfl, _, _, rfl, rfl, ?_⟩
    refine ⟨_, rfl, _, rfl, _, rfl, _, rfl, _, rfl, D, _, rfl, .inl (.inl hD), fun p1 np1 => ?_⟩
    have q1 := same_upd (o := .lst (cutV (L.map V.int) (some n) none)) np1
    refine ⟨_, rfl, _, rfl, _, rfl, D, _, rfl, .inl (.inl (q1 _ _ hD)), fun p2 np2 => ?_⟩
    have q2 := same_upd (o := .lst (cutV (L.map V.int) none (some n))) np2
    rw [cutI_from (by omega) (by omega), cutI_to (by omega) (by omega)] at *
    refine ⟨_, _, _, _, rfl, rfl, q2 _ _ upd_same, upd_same, by rw [List.length_map, List.length_map, List.length_drop, List.length_take]; omega, fun p3 np3 => ?_⟩
    have q3 := same_upd (o := .lst ((overL n L).map V.int)) np3
    have hlen : ((overL n L).length : Int) = m + n := by rw [overL_len]; omega
    have e3 : (L.drop n.toNat).map V.int ++ (L.take n.toNat).map V.int = (overL n L).map V.int := by
      unfold overL
      rw [List.map_append]
    rw [e3] at *
    have sz : siz m n = true := siz_iff.mpr (by omega)
    refine ⟨m, n, p3, overL n L, rfl, .inl (.inl upd_same), by rw [overL_len]; omega, (fun z => by rw [sz] at z; exact nomatch z), fun _ => ⟨fun z => absurd hlen z, fun _ v' H5 s5 dv => ?_⟩⟩
    rw [← eL] at dv
    exact q v' H5 (Same.trans s1 (Same.trans q1 (Same.trans q2 (Same.trans q3 s5)))) (DgAt.over d.2.2 d.2.1 dv)
end

/-! ### the pieces are the same in both ways -/
theorem ker_sel {a b : List Int} (k : KerEq a b) (sel : List Int → List Int) (hm : ∀ (g : Int → Int) (z : List Int), sel (z.map g) = (sel z).map g) (hs : ∀ z, ∀ x ∈ sel z, x ∈ z) : hid b (sel b) = hid a (sel a) ∧ blocksOf (sel b) = blocksOf (sel a) := by
  obtain ⟨g, e, inj⟩ := k.img
  refine ⟨hid_map (fun i => i) (fun i hi => by rw [k.1]; exact hi) (fun i hi => ⟨i, by rw [← k.1]; exact hi, rfl⟩) (fun i j hi hj => by rw [← k.1] at hi hj; exact (k.2 i j hi hj).symm) fun i hi => ?_, ?_⟩
  · have hi' : i < a.length := by rw [k.1]; exact hi
    rw [e, hm, co_map_lt hi']
    constructor
    · intro h
      obtain ⟨x, hx, ex⟩ := List.mem_map.mp h
      rw [← inj x (hs a x hx) (co a i) (co_mem hi') ex]
      exact hx
    · exact fun h => List.mem_map.mpr ⟨_, h, rfl⟩
  · rw [e, hm]
    exact blocksOf_map fun x hx y hy => inj x (hs a x hx) y (hs a y hy)
def Fend (n m c : Nat) (l : List Int) (i j : Nat) : Prop := (i < l.length ∧ j < l.length ∧ co l i = co l j) ∨ ∃ k, k < c ∧ i = n - c + k ∧ j = n + m - c + k
theorem fend_bd {n m c : Nat} {l : List Int} (hl : l.length = n + m) (hc : c ≤ n ∧ c ≤ m) : Bd (n + m) (Fend n m c l) := fun i j h => by
  rcases h with ⟨h1, h2, _⟩ | ⟨k, hk, rfl, rfl⟩
  · exact ⟨by omega, by omega⟩
  · exact ⟨by omega, by omega⟩
theorem ks_endM {n m c : Nat} {l : List Int} (hl : l.length = n + m) (hc : c ≤ n ∧ c ≤ m) : Ks (n + m) (endM n m c l) (Fend n m c l) := by
  refine (ks_pcs (endG_bd hl hc)).congr (fend_bd hl hc) (fun i j h => ?_) (fun i j h => ?_)
  · obtain ⟨g, hg, p, hp, e1, e2⟩ := h
    rcases List.mem_append.mp hg with hg | hg
    · exact .ed (.inl (blocks_ge i j ⟨g, hg, p, hp, e1, e2⟩))
    · obtain ⟨k, hk, rfl⟩ := List.mem_map.mp hg
      have hk := List.mem_range.mp hk
      obtain rfl := List.mem_singleton.mp hp
      exact .ed (.inr ⟨k, hk, e1, e2⟩)
  · rcases h with ⟨h1, h2, e⟩ | ⟨k, hk, rfl, rfl⟩
    · exact (ge_blocks h1 h2 e).mono fun i j ⟨g, hg, r⟩ => .ed ⟨g, List.mem_append_left _ hg, r⟩
    · exact .ed ⟨_, List.mem_append_right _ (List.mem_map.mpr ⟨k, List.mem_range.mpr hk, rfl⟩), ((n + m - c + k : Nat) : Int), List.mem_singleton.mpr rfl, rfl, rfl⟩

/-! ### the whole, closed -/
def Ewh (n m : Nat) (P : List Int) (x y : Nat) : Prop := (x < n + m + n ∧ y < n + m + n ∧ co P x = co P y) ∨ ∃ k, k < n ∧ x = k ∧ y = n + m + k
theorem ewh_bd (n m : Nat) (P : List Int) : Bd (n + m + n) (Ewh n m P) := fun i j h => by
  rcases h with ⟨h1, h2, _⟩ | ⟨k, hk, rfl, rfl⟩
  · exact ⟨h1, h2⟩
  · exact ⟨by omega, by omega⟩
theorem ks_ewh {n m : Nat} {P : List Int} (hP : P.length = n + m + n) : ∃ T, Ks (n + m + n) T (Ewh n m P) := by
  have k0 := ks_marks P
  rw [hP] at k0
  have k1 := ks_jns ((List.range n).map fun k => (k, n + m + k)) P _ (fun e he => by
    obtain ⟨k, hk, rfl⟩ := List.mem_map.mp he
    have := List.mem_range.mp hk
    exact ⟨by show k < _; omega, by show n + m + k < _; omega⟩) k0
  refine ⟨_, k1.congr (ewh_bd n m P) (fun i j h => ?_) (fun i j h => ?_)⟩
  · rcases h with h | h
    · exact .ed (.inl h)
    · obtain ⟨k, hk, e⟩ := List.mem_map.mp h
      obtain ⟨e1, e2⟩ := Prod.mk.inj e
      exact .ed (.inr ⟨k, List.mem_range.mp hk, e1.symm, e2.symm⟩)
  · rcases h with h | ⟨k, hk, rfl, rfl⟩
    · exact .ed (.inl h)
    · exact .ed (.inr (List.mem_map.mpr ⟨i, List.mem_range.mpr hk, rfl⟩))
theorem connE {n m : Nat} {P : List Int} (hP : P.length = n + m + n) {i j : Nat} (hi : i < n + n) (hj : j < n + n) :
    Conn (Fend n n n (inoutL n (n + m) P)) i j ↔ Conn (Ewh n m P) (eA n m i) (eA n m j) := by
  have lS : (inoutL n (n + m) P).length = n + n := by rw [inout_len (by omega) (by omega)]; omega
  have low : ∀ i, i < n + n → eA n m i < n + m + n := fun i hi => by unfold eA; split <;> omega
  constructor
  · refine Conn.map (f := eA n m) fun i j h => .ed ?_
    rcases h with ⟨a, b, c⟩ | ⟨k, hk, rfl, rfl⟩
    · rw [lS] at a b
      rw [cutA_co hP a, cutA_co hP b] at c
      exact .inl ⟨low i a, low j b, c⟩
    · exact .inr ⟨k, hk, by rw [eA_lo (by omega)]; omega, by rw [eA_hi (by omega)]; omega⟩
  · intro h
    have like : ∀ i, i < n + n → Conn (Fend n n n (inoutL n (n + m) P)) ((inoutL n (n + m) P).idxOf (co P (eA n m i))) i := fun i hi => by
      have hx : co P (eA n m i) ∈ inoutL n (n + m) P := by rw [← cutA_co hP hi]; exact co_mem (by omega)
      have m := ixf_co hx
      exact .ed (.inl ⟨m.1, by rw [lS]; exact hi, by rw [m.2, cutA_co hP hi]⟩)
    have cm := Conn.map (F := Fend n n n (inoutL n (n + m) P)) (f := fun x => (inoutL n (n + m) P).idxOf (co P x)) (fun x y h => ?_) h
    · exact .tr (.sy (like i hi)) (.tr cm (like j hj))
    · rcases h with ⟨a, b, c⟩ | ⟨k, hk, rfl, rfl⟩
      · show Conn _ ((inoutL n (n + m) P).idxOf (co P x)) ((inoutL n (n + m) P).idxOf (co P y))
        rw [c]
        exact .rf _
      · have a1 := like x (by omega)
        have a2 := like (n + x) (by omega)
        rw [eA_lo hk] at a1
        rw [eA_hi (by omega), show n + x + m = n + m + x by omega] at a2
        exact .tr a1 (.tr (.ed (.inr ⟨x, hk, by omega, by omega⟩)) (.sy a2))
theorem closeT {n m : Nat} {P T : List Int} (hP : P.length = n + m + n) (kT : Ks (n + m + n) T (Ewh n m P)) : cnt T = hid P (inoutL n (n + m) P) + cnt (endM n n n (inoutL n (n + m) P)) := by
  have lS : (inoutL n (n + m) P).length = n + n := by rw [inout_len (by omega) (by omega)]; omega
  have kR := ks_endM (n := n) (m := n) (c := n) lS ⟨Nat.le_refl _, Nat.le_refl _⟩
  have lT := kT.len
  have lR := kR.len
  have low : ∀ i, i < n + n → eA n m i < n + m + n := fun i hi => by unfold eA; split <;> omega
  have outS : ∀ x, x < n + m + n → (x < n ∨ n + m ≤ x) → co P x ∈ inoutL n (n + m) P := fun x hx ho => (inout_mem (by omega) (by omega)).mpr ⟨x, ho, by omega, rfl⟩
  have e1 : ∀ i j, i < n + n → j < n + n → (co (endM n n n (inoutL n (n + m) P)) i = co (endM n n n (inoutL n (n + m) P)) j ↔ co T (eA n m i) = co T (eA n m j)) := fun i j hi hj => by
    rw [kR.eq i j hi hj, kT.eq _ _ (low i hi) (low j hj)]
    exact connE hP hi hj
  rw [cnt_hid, cnt_hid]
  refine two_hid (e := eA n m) (ι := id) (oT := fun _ => False) (oR := fun _ => False) lT lR hP low (fun p hp => hp) e1 ?_ (fun _ _ _ _ h => h) ?_ ?_ (fun _ _ h => h.elim) (fun _ _ h => h.elim) ?_ (fun k => ⟨fun z => (nomatch z), fun ⟨_, _, z, _⟩ => z.elim⟩) (fun k => ⟨fun z => (nomatch z), fun ⟨_, _, z, _⟩ => z.elim⟩)
  · intro p hp hn y hy c
    have c := (kT.eq _ _ (by show p < _; omega) hy).mp c
    have kp := Conn.keep (g := fun x => decide (x < n + m + n ∧ co P x = co P p)) (fun x y h => ?_) c
    · have : decide (p < n + m + n ∧ co P p = co P p) = true := decide_eq_true ⟨hp, rfl⟩
      have z : decide (y < n + m + n ∧ co P y = co P p) = true := by rw [← this]; exact kp.symm
      have z := of_decide_eq_true z
      exact ⟨y, z.1, rfl, z.2⟩
    · rcases h with ⟨a, b, c⟩ | ⟨k, hk, rfl, rfl⟩
      · show decide _ = decide _
        rw [c]
        exact decide_eq_decide.mpr ⟨fun z => ⟨b, z.2⟩, fun z => ⟨a, z.2⟩⟩
      · show decide _ = decide _
        rw [decide_eq_false (fun z => hn (by rw [← z.2]; exact outS _ z.1 (.inl hk))), decide_eq_false (fun z => hn (by rw [← z.2]; exact outS _ z.1 (.inr (by omega))))]
  · intro p p' hp hp' e
    exact (kT.eq _ _ (by show p < _; omega) (by show p' < _; omega)).mpr (.ed (.inl ⟨hp, hp', e⟩))
  · intro x hx
    by_cases d : co P x ∈ inoutL n (n + m) P
    · left
      have md := ixf_co d
      rw [lS] at md
      refine ⟨(inoutL n (n + m) P).idxOf (co P x), md.1, (kT.eq _ _ (low _ md.1) hx).mpr (.ed (.inl ⟨low _ md.1, hx, ?_⟩))⟩
      rw [← cutA_co hP md.1, md.2]
    · exact .inr ⟨x, hx, rfl, d⟩
  · intro i p hi hp e
    have e : eA n m i = p := e
    refine outS p hp ?_
    unfold eA at e
    split at e <;> omega
def Jm (N : Nat) (l1 l2 : List Int) (i j : Nat) : Prop := i < N ∧ j < N ∧ (co l1 i = co l1 j ∨ co l2 i = co l2 j)
def fW (n m p : Nat) : Nat := if p < n + m then p else p - (n + m)
theorem pieces_of {n m : Nat} {l1 l2 J : List Int} (h1 : l1.length = n + m) (h2 : l2.length = m + n) (kJ : Ks (n + m) J (Jm (n + m) l1 (ovL m l2))) :
    hid (putM n m n l1 l2) (putS n m n l1 l2) + cnt (endM n n n (putS n m n l1 l2)) = cnt J := by
  have kP := ks_putM h1 h2
  have hP := kP.len
  obtain ⟨T, kT⟩ := ks_ewh hP
  have sS : putS n m n l1 l2 = inoutL n (n + m) (putM n m n l1 l2) := rfl
  rw [sS, ← closeT hP kT, cnt_hid, cnt_hid]
  have lT := kT.len
  have lJ := kJ.len
  have fl : ∀ p, p < n + m + n → fW n m p < n + m := fun p hp => by unfold fW; split <;> omega
  have oc : ∀ i, i < n + m → co (ovL m l2) i = co l2 (if i < n then m + i else i - n) := fun i hi => ovL_co (n := m) (m := n) h2 (by omega)
  have pe : ∀ {x y}, Fput n m n l1 l2 x y → co (putM n m n l1 l2) x = co (putM n m n l1 l2) y := fun {x y} h => by
    have b : x < n + m + n ∧ y < n + m + n := by
      rcases h with ⟨a, b, _⟩ | ⟨a, b, ha, hb, rfl, rfl, _⟩
      · omega
      · omega
    exact (kP.eq _ _ b.1 b.2).mpr (.ed h)
  have link : ∀ p, p < n + m + n → Conn (Ewh n m (putM n m n l1 l2)) (fW n m p) p := fun p hp => by
    unfold fW
    by_cases c : p < n + m
    · rw [if_pos c]
      exact .rf _
    · rw [if_neg c]
      exact .ed (.inr ⟨p - (n + m), by omega, rfl, by omega⟩)
  refine hid_map (a := J) (b := T) (fW n m) (fun i hi => by rw [lJ]; exact fl i (by rw [← lT]; exact hi)) (fun i hi => ⟨i, by rw [lT]; omega, by unfold fW; rw [if_pos (by omega)]⟩) (fun i j hi hj => ?_) (fun i _ => ⟨fun z => (nomatch z), fun z => (nomatch z)⟩)
  rw [lT] at hi hj
  rw [kT.eq i j hi hj, kJ.eq _ _ (fl i hi) (fl j hj)]
  constructor
  · refine Conn.map (f := fW n m) fun x y h => ?_
    rcases h with ⟨a, b, c⟩ | ⟨k, hk, rfl, rfl⟩
    · have cf := (kP.eq _ _ a b).mp c
      refine Conn.map (f := fW n m) (fun x y h => ?_) cf
      rcases h with ⟨a, b, c⟩ | ⟨a, b, ha, hb, rfl, rfl, c⟩
      · refine .ed ⟨fl _ (by omega), fl _ (by omega), .inl ?_⟩
        unfold fW
        rw [if_pos a, if_pos b]
        exact c
      · refine .ed ⟨fl _ (by omega), fl _ (by omega), .inr ?_⟩
        have w : ∀ a, a < m + n → co (ovL m l2) (fW n m (n + a)) = co l2 a := fun a ha => by
          rw [oc _ (fl _ (by omega))]
          unfold fW
          by_cases c : n + a < n + m
          · rw [if_pos c, if_neg (by omega)]
            congr 1
            omega
          · rw [if_neg c, if_pos (by omega)]
            congr 1
            omega
        rw [w a ha, w b hb]
        exact c
    · have e : fW n m x = fW n m (n + m + x) := by
        unfold fW
        rw [if_pos (by omega), if_neg (by omega)]
        omega
      rw [e]
      exact .rf _
  · intro h
    refine .tr (.sy (link i hi)) (.tr (Conn.mono (fun x y h => ?_) h) (link j hj))
    obtain ⟨hx, hy, h | h⟩ := h
    · exact .ed (.inl ⟨by omega, by omega, pe (.inl ⟨hx, hy, h⟩)⟩)
    · have w : ∀ x, x < n + m → ∃ a, a < m + n ∧ co (ovL m l2) x = co l2 a ∧ Conn (Ewh n m (putM n m n l1 l2)) x (n + a) := fun x hx => by
        rw [oc x hx]
        by_cases c : x < n
        · exact ⟨m + x, by omega, by rw [if_pos c], .ed (.inr ⟨x, c, rfl, by omega⟩)⟩
        · refine ⟨x - n, by omega, by rw [if_neg c], ?_⟩
          rw [show n + (x - n) = x by omega]
          exact .rf _
      obtain ⟨a, ha, ea, ca⟩ := w x hx
      obtain ⟨b, hb, eb, cb⟩ := w y hy
      rw [ea, eb] at h
      exact .tr ca (.tr (.ed (.inl ⟨by omega, by omega, pe (.inr ⟨a, b, ha, hb, rfl, rfl, h⟩)⟩)) (.sy cb))

section
variable {P : Program} {w : World} {K : PySem.W.Frag} {mg : Str → Option Value} {base : Heap}
/-! ### piece_count -/
def spPieceCount (K : PySem.W.Frag) : Sp := fun vs H Q _ => ∃ (N : Nat) (a : Addr) (gs : List V) (bs : List (List Int)), vs = [.int (N : Int), .ref a] ∧ SqL K H a gs ∧ Paired (Grp K H) gs bs ∧ GBd N bs ∧ N < 64 ∧ ∀ H', Same H H' → Q (.int (cnt (pcs N bs) : Nat)) H'
theorem ok_piece_count {f a_piece_marks : Addr} {fd fd_piece_marks : FuncData} (F : Fun K "piece_count" "piece_count" s_piece_count f fd) (z_len : mg "len" = none) (z_set : mg "set" = none)
    (G_piece_marks : FnOk P w K mg base CX0 2 a_piece_marks fd_piece_marks ["size", "groups"] (spPieceMarks K)) (g_piece_marks : mg "piece_marks" = some (.ref a_piece_marks)) (k_piece_marks : PySem.W.keepIn K (.ref a_piece_marks) = true) (b_piece_marks : Binds K fd_piece_marks ["size", "groups"] []) :
    FnOk P w K mg base CX0 3 f fd ["size", "groups"] (spPieceCount K) := by
  refine F.ok sc_piece_count (fun vs H Q E h => ?_) (fun cdv A outer s H vs Q E hr h => ?_)
  · obtain ⟨N, a, gs, bs, rfl, _⟩ := h
    rfl
  · obtain ⟨N, a, gs, bs, rfl, ha, pg, gb, hN, q⟩ := h
    refine ⟨_, (pss_one (ps_ret (SD.pe_lenSetD rfl rfl z_len rfl z_set (pe_call G_piece_marks (hr.mono (by decide)) rfl g_piece_marks k_piece_marks b_piece_marks .nil pass0 (pa_cons (pv 0) (pa_cons (pv 1) pa_nil)))))), ?_⟩
    have lM : (pcs N bs).length = N := (ks_pcs gb).len
    refine ⟨_, rfl, _, rfl, N, a, gs, bs, rfl, ha, pg, gb, by omega, fun D H1 s1 nD hD => ?_⟩
    refine ⟨D, _, rfl, .inl (.inl hD), by omega, fun L nd mem => ?_⟩
    rw [cnt_is nd mem]
    exact q H1 s1
end

/-! ### tables in lists of lists -/
/-- a new list at L of new lists, no two of them the same -/
structure TabH (H0 H : Hp) (L : Addr) (rows : List (List V)) : Prop where
  fr : H0 L = none
  ex : ∃ us, H L = some (.lst us) ∧ us.Nodup ∧ Paired (fun v r => ∃ a, v = .ref a ∧ a ≠ L ∧ H0 a = none ∧ H a = some (.lst r)) us rows
theorem TabH.same {H0 H H' : Hp} {L : Addr} {rows : List (List V)} (s : Same H H') (t : TabH H0 H L rows) : TabH H0 H' L rows := by
  obtain ⟨f, us, hL, nd, pr⟩ := t
  refine ⟨f, us, s _ _ hL, nd, Paired.mapP pr fun _ _ h => ?_⟩
  obtain ⟨a, e, h1, h2, h3⟩ := h
  exact ⟨a, e, h1, h2, s _ _ h3⟩
theorem TabH.from {H0 H1 H : Hp} {L : Addr} {rows : List (List V)} (s : Same H0 H1) (t : TabH H1 H L rows) : TabH H0 H L rows := by
  obtain ⟨f, us, hL, nd, pr⟩ := t
  refine ⟨none_back s f, us, hL, nd, Paired.mapP pr fun _ _ h => ?_⟩
  obtain ⟨a, e, h1, h2, h3⟩ := h
  exact ⟨a, e, h1, none_back s h2, h3⟩
theorem paired_set {α β : Type} {F G : α → β → Prop} : ∀ {us : List α} {rows : List β} {i : Nat} {v : α} {r : β}, Paired F us rows → us[i]? = some v → us.Nodup → G v r → (∀ u b, u ≠ v → F u b → G u b) → Paired G us (rows.set i r)
  | _, _, _, _, _, .nil, e, _, _, _ => nomatch e
  | _ :: us, _ :: rows, 0, _, r, .cons f t, e, nd, g, k => by
    obtain rfl := Option.some.inj e
    obtain ⟨n1, _⟩ := List.nodup_cons.mp nd
    have : ∀ {us : List _} {rows : List _}, Paired F us rows → (∀ u ∈ us, u ≠ _) → Paired G us rows := fun {us rows} pr => by
      intro hu
      induction pr with
      | nil => exact .nil
      | cons f t ih => exact .cons (k _ _ (hu _ List.mem_cons_self) f) (ih fun u h => hu u (List.mem_cons_of_mem _ h))
    exact .cons g (this t fun u hu e => n1 (e ▸ hu))
  | u :: us, _ :: rows, i + 1, v, r, .cons f t, e, nd, g, k => by
    obtain ⟨n1, n2⟩ := List.nodup_cons.mp nd
    have e : us[i]? = some v := e
    exact .cons (k _ _ (fun z => n1 (z ▸ List.mem_of_getElem? e)) f) (paired_set t e n2 g k)
theorem TabH.set {H0 H : Hp} {L : Addr} {rows : List (List V)} (t : TabH H0 H L rows) {us : List V} (hL : H L = some (.lst us)) {i : Nat} {a : Addr} (e : us[i]? = some (.ref a)) (r : List V) : TabH H0 (upd H a (.lst r)) L (rows.set i r) := by
  obtain ⟨f, us', hL', nd, pr⟩ := t
  obtain rfl : us' = us := HO.lst.inj (Option.some.inj (hL'.symm.trans hL))
  obtain ⟨_, _, a', e', h1, h2, _⟩ := paired_get pr e
  obtain rfl := V.ref.inj e'
  refine ⟨f, us', by rw [upd_ne (Ne.symm h1)]; exact hL, nd, paired_set pr e nd ⟨a, rfl, h1, h2, upd_same⟩ fun u b ne h => ?_⟩
  obtain ⟨c, rfl, g1, g2, g3⟩ := h
  exact ⟨c, rfl, g1, g2, by rw [upd_ne fun z => ne (by rw [z])]; exact g3⟩
/-- what does not lie in the table stays -/
theorem TabH.out {H0 H : Hp} {L : Addr} {rows : List (List V)} (t : TabH H0 H L rows) {us : List V} (hL : H L = some (.lst us)) {i : Nat} {a : Addr} (e : us[i]? = some (.ref a)) (r : List V) : ∀ b o, H0 b = some o → H b = some o → upd H a (.lst r) b = some o := by
  obtain ⟨f, us', hL', nd, pr⟩ := t
  obtain rfl : us' = us := HO.lst.inj (Option.some.inj (hL'.symm.trans hL))
  obtain ⟨_, _, a', e', h1, h2, _⟩ := paired_get pr e
  obtain rfl := V.ref.inj e'
  intro b o e0 e1
  rw [upd_ne fun z => by rw [z, h2] at e0; cases e0]
  exact e1
theorem TabH.but {H0 H H' : Hp} {D L : Addr} {rows : List (List V)} {o : HO} (hD : H0 D = some o) (s : SameBut D H H') (t : TabH H0 H L rows) : TabH H0 H' L rows := by
  obtain ⟨f, us, hL, nd, pr⟩ := t
  have n1 : ∀ {a : Addr}, H0 a = none → a ≠ D := fun {a} h z => by rw [z, hD] at h; exact nomatch h
  refine ⟨f, us, s _ _ (n1 f) hL, nd, Paired.mapP pr fun _ _ h => ?_⟩
  obtain ⟨a, e, h1, h2, h3⟩ := h
  exact ⟨a, e, h1, h2, s _ _ (n1 h2) h3⟩
theorem TabH.new {H0 H : Hp} {L : Addr} (h0 : H0 L = none) (h : H L = some (.lst [])) : TabH H0 H L [] := ⟨h0, [], h, List.nodup_nil, .nil⟩
/-- a new row q at the end -/
theorem TabH.push {H0 H : Hp} {L q : Addr} {rows : List (List V)} {us : List V} {r : List V} (t : TabH H0 H L rows) (hL : H L = some (.lst us)) (nq : H q = none) (h0 : H0 q = none) :
    TabH H0 (upd (upd H q (.lst r)) L (.lst (us ++ [.ref q]))) L (rows ++ [r]) := by
  obtain ⟨f, us', hL', nd, pr⟩ := t
  obtain rfl : us' = us := HO.lst.inj (Option.some.inj (hL'.symm.trans hL))
  have qL : q ≠ L := fun z => by rw [z, hL] at nq; exact nomatch nq
  refine ⟨f, us' ++ [.ref q], upd_same, ?_, ?_⟩
  · rw [List.nodup_append]
    refine ⟨nd, List.nodup_cons.mpr ⟨List.not_mem_nil, List.nodup_nil⟩, fun a ha b hb e => ?_⟩
    rw [List.mem_singleton.mp hb] at e
    rw [e] at ha
    obtain ⟨i, hi, e⟩ := List.mem_iff_getElem.mp ha
    obtain ⟨_, _, a', e', _, _, h⟩ := paired_get pr (show us'[i]? = some (.ref q) by rw [List.getElem?_eq_getElem hi, e])
    obtain rfl := V.ref.inj e'
    rw [nq] at h
    exact nomatch h
  · refine paired_add ⟨q, rfl, qL, h0, by rw [upd_ne qL, upd_same]⟩ (Paired.mapP pr fun _ _ h => ?_)
    obtain ⟨a, e, h1, h2, h3⟩ := h
    exact ⟨a, e, h1, h2, by rw [upd_ne h1]; exact same_upd nq _ _ h3⟩
/-- a list that is not at D -/
def RowD (D : Addr) (H : Hp) (v : V) (z : List Int) : Prop := ∃ a, v = .ref a ∧ a ≠ D ∧ H a = some (.lst (z.map V.int))
theorem rowD_keep {D : Addr} {H H' : Hp} {x : V} {z : List Int} (sb : SameBut D H H') (h : RowD D H x z) : RowD D H' x z := by
  obtain ⟨a, rfl, ne, ha⟩ := h
  exact ⟨a, rfl, ne, sb _ _ ne ha⟩

/-! ### _law_marked, the marks in a tuple -/
theorem call_tuple_ofKM {X : Cx} {K : PySem.W.Frag} (hK : X.K = K) : CallR X (.type "tuple") (fun xs H Q => ∃ p ys, xs = [.ref p] ∧ ((SqL K H p ys ∧ ∀ l, H l = none → Q (.ref l) (upd H l (.tup ys))) ∨ (SqT K H p ys ∧ Q (.ref p) H))) := by
  subst hK
  exact call_tuple_of
theorem inV_intM {p : Int} : ∀ l : List Int, inV (.int p) (l.map V.int) = decide (p ∈ l)
  | [] => rfl
  | x :: l => by
    show (eqV (.int x) (.int p) || inV (.int p) (l.map V.int)) = _
    rw [inV_intM l]
    have e : eqV (.int x) (.int p) = decide (x = p) := by
      by_cases c : x = p <;> simp [eqV, c]
    rw [e]
    by_cases c : x = p
    · rw [decide_eq_true c, decide_eq_true (List.mem_cons.mpr (.inl c.symm))]
      rfl
    · rw [decide_eq_false c, Bool.false_or]
      refine decide_eq_decide.mpr ⟨fun z => List.mem_cons_of_mem _ z, fun z => (List.mem_cons.mp z).resolve_left fun z => c z.symm⟩
theorem flat_intM : ∀ l : List Int, (l.map V.int).all flatV = true
  | [] => rfl
  | _ :: l => by
    rw [List.map_cons, List.all_cons, flat_intM l]
    rfl
section
variable {P : Program} {w : World} {K : PySem.W.Frag} {mg : Str → Option Value} {base : Heap}
def spMarked (K : PySem.W.Frag) : Sp := fun vs H Q _ => ∃ (n m : Int) (a : Addr) (marks : List Int), vs = [.int n, .int m, .ref a] ∧ SqT K H a (marks.map V.int) ∧ marks.length ≤ 1000 ∧ (marks.length : Int) = n + m ∧
  ∀ v H', Same H H' → (∀ t, v = .ref t → H t = none) → DGv H' v n m (blocksOf marks) → Q v H'
theorem ok_law_marked {f : Addr} {fd : FuncData} (F : Fun K "_law_marked" "_law_marked" s_law_marked f fd) (z_tuple : mg "tuple" = none) (z_range : mg "range" = none) (z_len : mg "len" = none) :
    FnOk P w K mg base CX0 1 f fd ["n", "m", "marks"] (spMarked K) := by
  refine F.ok sc_law_marked (fun vs H Q E h => ?_) (fun cdv A outer s H vs Q E hr h => ?_)
  · obtain ⟨n, m, a, marks, rfl, _⟩ := h
    rfl
  · obtain ⟨n, m, a, marks, rfl, ha, hl, hN, q⟩ := h
    refine ⟨_, (pss_cons (ps_set (i := 3) sc_law_marked.nd rfl (.inl rfl) (pe_lst pa_nil))
  (pss_cons (ps_set (i := 4) sc_law_marked.nd rfl (.inl rfl) (pe_lst pa_nil))
  (pss_cons (ps_for PassesOwn.never rfl (pi_range1 rfl z_range (pa_cons (pe_callB call_len_seq (by rfl) z_len boot_len (pa_cons (pv 2) pa_nil)) pa_nil)) (pg_name (i := 5) sc_law_marked.nd rfl (.inl rfl)) (Evl.pss_cut (ps_if (pt_cmpR op_notIn_seq (pe_ix ix_tup (pv 2) (pv 5) (fun _ _ => rfl)) (pv 3) (by with_unfolding_all rfl)) (pss_cons (ps_expr (pe_bm PySem.F.plainAttrs_list PySem.F.slot_list_append PySem.F.type_list_append mt_append (pv 3) (pa_cons (pe_ix ix_tup (pv 2) (pv 5) (fun _ _ => rfl)) pa_nil)))
  (pss_one (ps_expr (pe_bm PySem.F.plainAttrs_list PySem.F.slot_list_append PySem.F.type_list_append mt_append (pv 4) (pa_cons (pe_lst pa_nil) pa_nil))))) pss_nil)
  (pss_one (ps_expr (pe_bm PySem.F.plainAttrs_list PySem.F.slot_list_append PySem.F.type_list_append mt_append (pe_ix ix_list (pv 4) (pe_bm PySem.F.plainAttrs_list PySem.F.slot_list_index PySem.F.type_list_index mt_index (pv 3) (pa_cons (pe_ix ix_tup (pv 2) (pv 5) (fun _ _ => rfl)) pa_nil)) (fun _ _ => rfl)) (pa_cons (pv 5) pa_nil))))))
  (pss_one (ps_ret (pe_tup (pa_cons (pv 0) (pa_cons (pv 1) (pa_cons (pe_callTy call_tuple_of (by rfl) z_tuple boot_tuple (pa_cons (pe_lc (own := [("block", 6)]) rfl sc_law_marked.nd (pi_list (pv 4)) (blkOk_by (N := ["n", "m", "marks", "known", "blocks", "at", "block"]) (sc := defScope s_law_marked) (by first | decide +kernel | rfl)) (fun _ _ _ _ _ => (pg_name (i := 6) sc_law_marked.nd rfl (.inl rfl))) (fun _ _ _ _ _ => pts_nil) (fun _ _ _ _ _ => (pe_callTy (call_tuple_ofKM (K := K) rfl) (by rfl) z_tuple boot_tuple (pa_cons (pv 6) pa_nil)))) pa_nil)) pa_nil))))))))), ?_⟩
    have szl : 20000 ≤ sizeLine := by decide
    refine ⟨(by show 0 ≤ sizeLine; decide), fun D nD => ⟨(by show 0 ≤ sizeLine; decide), fun B nB => ?_⟩⟩
    have s1 := same_upd (o := .lst []) nD
    have s2 := same_upd (o := .lst []) nB
    have h1D : upd H D (.lst []) D = some (.lst []) := upd_same
    have hD2 : upd (upd H D (.lst [])) B (.lst []) D = some (.lst []) := s2 _ _ h1D
    have tb0 : TabH (upd H D (.lst [])) (upd (upd H D (.lst [])) B (.lst [])) B [] := .new nB upd_same
    have DB : B ≠ D := fun z => by rw [z, h1D] at nB; exact nomatch nB
    have s12 : Same H (upd (upd H D (.lst [])) B (.lst [])) := Same.trans s1 s2
    have hS1 : ∀ b o, upd H D (.lst []) b = some o → b = D ∨ H b = some o := fun b o e => by
      by_cases c : b = D
      · exact .inl c
      · rw [upd_ne c] at e
        exact .inr e
    generalize upd H D (.lst []) = H1 at *
    generalize upd H1 B (.lst []) = H2 at *
    refine ⟨_, rfl, a, marks.map V.int, rfl, .inr (sqT_same s12 ha), _, rfl, by omega, by rw [List.length_map]; omega, ?_⟩
    rw [List.length_map, show ((marks.length : Nat) : Int).toNat = marks.length from rfl]
    refine for_range (lo := 0) (n := marks.length) (fun k σ H' => ∃ v5 : Option V, σ = [some (.int n), some (.int m), some (.ref a), some (.ref D), some (.ref B), v5, none] ∧ Same H H' ∧ H' D = some (.lst ((seenL [] (marks.take k)).map V.int)) ∧
      TabH H1 H' B ((seenL [] (marks.take k)).map fun v => (posOf (marks.take k) v).map V.int)) ⟨none, rfl, s12, hD2, tb0⟩ (fun k σ H3 hk hP => ?_) (fun σ H3 hP => ?_)
    · obtain ⟨v5, rfl, s3, hD, tb⟩ := hP
      have ha3 := sqT_same s3 ha
      have ek : (0 : Int) + (k : Int) = (k : Int) := Int.zero_add _
      rw [ek]
      have ls := seenL_len (marks.take k) []
      rw [List.length_take] at ls
      have ls2 : (seenL [] (marks.take k)).length ≤ 1000 := by
        have : ([] : List Int).length = 0 := rfl
        omega
      obtain ⟨_, us, hB, _, pU⟩ := id tb
      have lus : us.length ≤ 1000 := by rw [pU.length, List.length_map]; exact ls2
      refine ⟨fun σ H' => σ = [some (.int n), some (.int m), some (.ref a), some (.ref D), some (.ref B), some (.int (k : Int)), none] ∧ Same H H' ∧ H' D = some (.lst ((seenL [] (marks.take (k + 1))).map V.int)) ∧
        TabH H1 H' B ((seenL [] (marks.take (k + 1))).map fun v => (posOf (marks.take k) v).map V.int), ?_, ?_⟩
      · refine ⟨_, rfl, _, rfl, a, _, _, _, rfl, rfl, ha3, at_co hk, _, rfl, D, _, rfl, .inl (.inl (.inl hD)), rfl, flat_intM _, _, rfl, ?_⟩
        by_cases c : co marks k ∈ seenL [] (marks.take k)
        · refine if_neg_of (by show ¬ (!inV _ _) = true; rw [inV_intM, decide_eq_true c]; exact Bool.false_ne_true) ⟨rfl, s3, ?_⟩
          rw [take_snoc hk, seenL_snoc, if_pos c]
          exact ⟨hD, tb⟩
        · refine if_pos_of (by show (!inV _ _) = true; rw [inV_intM, decide_eq_false c]; rfl) ?_
          refine ⟨_, rfl, .inl ⟨rfl, _, .inl (.inl hD)⟩, _, rfl, _, rfl, a, _, _, _, rfl, rfl, ha3, at_co hk, D, _, _, rfl, rfl, hD, by rw [List.length_map]; omega, ?_⟩
          have sbD := SameBut.upd (H := H3) (a := D) (o := .lst ((seenL [] (marks.take k)).map V.int ++ [.int (co marks k)]))
          have tb4 := tb.but h1D sbD
          have hB4 := sbD _ _ DB hB
          have hD4 : upd H3 D (.lst ((seenL [] (marks.take k)).map V.int ++ [.int (co marks k)])) D = some (.lst ((seenL [] (marks.take (k + 1))).map V.int)) := by rw [upd_same, take_snoc hk, seenL_snoc, if_neg c, List.map_append]; rfl
          have s4 : Same H (upd H3 D (.lst ((seenL [] (marks.take k)).map V.int ++ [.int (co marks k)]))) := Same.mut s3 nD
          revert tb4 hB4 hD4 s4
          generalize upd H3 D (.lst ((seenL [] (marks.take k)).map V.int ++ [.int (co marks k)])) = H4
          intro tb4 hB4 hD4 s4
          refine ⟨_, rfl, .inl ⟨rfl, _, .inl (.inl hB4)⟩, (by show 0 ≤ sizeLine; decide), fun q1 nq1 => ?_⟩
          have w1 := same_upd (o := .lst []) nq1
          refine ⟨B, _, _, rfl, rfl, w1 _ _ hB4, by omega, rfl, Same.mut (Same.trans s4 w1) (none_back s1 nB), ?_, ?_⟩
          · rw [upd_ne (Ne.symm DB)]
            exact w1 _ _ hD4
          · have n1 : H1 q1 = none := by
              cases e : H1 q1 with
              | none => rfl
              | some o =>
                rcases hS1 _ _ e with z | z
                · rw [z, hD4] at nq1
                  exact nomatch nq1
                · rw [s4 _ _ z] at nq1
                  exact nomatch nq1
            have := tb4.push hB4 nq1 n1 (r := [])
            rw [take_snoc hk, seenL_snoc, if_neg c, List.map_append]
            show TabH H1 _ B (_ ++ [(posOf (marks.take k) (co marks k)).map V.int])
            rw [posOf_none (fun z => c ((seenL_mem _ [] _).mpr (.inr z)))]
            exact this
      clear tb
      rintro σ H4 ⟨rfl, s4, hD4, tb4⟩
      obtain ⟨_, us, hB, _, pU⟩ := id tb4
      have hin : co marks k ∈ seenL [] (marks.take (k + 1)) := (seenL_mem _ [] _).mpr (.inr (by rw [take_snoc hk]; exact List.mem_append_right _ (List.mem_singleton.mpr rfl)))
      have hj := List.idxOf_lt_length_of_mem hin
      have ej := List.getElem_idxOf hj
      have ndS := seenL_nodup (marks.take (k + 1)) [] List.nodup_nil
      obtain ⟨y, ey⟩ : ∃ y, us[(seenL [] (marks.take (k + 1))).idxOf (co marks k)]? = some y := ⟨_, List.getElem?_eq_getElem (by rw [pU.length, List.length_map]; exact hj)⟩
      obtain ⟨r, er, x, rfl, xB, nx, hx⟩ := paired_get pU ey
      rw [List.getElem?_map, List.getElem?_eq_getElem hj, ej] at er
      have er := Option.some.inj er
      dsimp only at er
      subst er
      have lp : (posOf (marks.take k) (co marks k)).length ≤ 1000 := by
        unfold posOf
        rw [List.length_map]
        refine Nat.le_trans (List.length_filter_le _ _) ?_
        rw [List.length_range, List.length_take]
        omega
      refine ⟨_, rfl, _, rfl, .inl ⟨rfl, _, .inl (.inl hD4)⟩, _, rfl, _, rfl, a, _, _, _, rfl, rfl, sqT_same s4 ha, at_co hk, D, _, .int (co marks k), (seenL [] (marks.take (k + 1))).idxOf (co marks k), .int (co marks k), rfl, rfl, .inl (.inl hD4), rfl, flat_intM _, ?_, ?_, fun i z hi hz => ?_, ?_⟩
      · rw [List.getElem?_map, List.getElem?_eq_getElem hj, ej]
        rfl
      · simp [eqV]
      · rw [List.getElem?_map] at hz
        obtain ⟨b, hb, rfl⟩ := Option.map_eq_some_iff.mp hz
        have : b ≠ co marks k := fun e => by
          subst e
          obtain ⟨hi', e2⟩ := List.getElem?_eq_some_iff.mp hb
          have := List.pairwise_iff_getElem.mp ndS i _ hi' hj hi
          rw [e2, ej] at this
          exact this rfl
        simp [eqV, this]
      · refine ⟨B, us, _, .ref x, rfl, rfl, .inl (.inl hB), atI_nat (j := (seenL [] (marks.take (k + 1))).idxOf (co marks k)) ey, ?_⟩
        refine ⟨.inl ⟨rfl, _, .inl (.inl hx)⟩, _, rfl, x, _, _, rfl, rfl, hx, by rw [List.length_map]; omega, ?_⟩
        have nxD : x ≠ D := fun z => by rw [z, h1D] at nx; exact nomatch nx
        have nxH : H x = none := none_back s1 nx
        refine ⟨_, rfl, Same.mut s4 nxH, by rw [upd_ne (Ne.symm nxD)]; exact hD4, ?_⟩
        have := tb4.set hB ey ((posOf (marks.take k) (co marks k)).map V.int ++ [V.int (k : Int)])
        have e : ((seenL [] (marks.take (k + 1))).map fun v => (posOf (marks.take k) v).map V.int).set ((seenL [] (marks.take (k + 1))).idxOf (co marks k)) ((posOf (marks.take k) (co marks k)).map V.int ++ [V.int (k : Int)]) = (seenL [] (marks.take (k + 1))).map fun v => (posOf (marks.take (k + 1)) v).map V.int := by
          refine List.ext_getElem? fun i => ?_
          rw [List.getElem?_set, List.length_map, List.getElem?_map, List.getElem?_map]
          by_cases c : (seenL [] (marks.take (k + 1))).idxOf (co marks k) = i
          · subst c
            rw [if_pos rfl, if_pos hj, List.getElem?_eq_getElem hj, ej]
            show _ = some ((posOf (marks.take (k + 1)) (co marks k)).map V.int)
            rw [posOf_take hk, if_pos rfl, List.map_append]
            rfl
          · rw [if_neg c]
            cases e : (seenL [] (marks.take (k + 1)))[i]? with
            | none => rfl
            | some v =>
              have nv : co marks k ≠ v := fun z => c (by
                obtain ⟨hi, e2⟩ := List.getElem?_eq_some_iff.mp e
                rw [z, ← e2]
                exact List.Nodup.idxOf_getElem ndS i hi)
              show some ((posOf (marks.take k) v).map V.int) = some ((posOf (marks.take (k + 1)) v).map V.int)
              rw [posOf_take hk, if_neg nv]
        rw [e] at this
        exact this
    · obtain ⟨v5, rfl, s3, hD, tb⟩ := hP
      rw [List.take_length] at tb
      obtain ⟨_, us, hB, _, pU⟩ := id tb
      have lus : us.length ≤ 1000 := by
        rw [pU.length, List.length_map]
        have := seenL_len marks []
        have e : ([] : List Int).length = 0 := rfl
        omega
      refine ⟨_, rfl, _, rfl, _, rfl, B, rfl, ⟨_, .inl (.inl hB)⟩, fun L nL => ?_⟩
      have BL : B ≠ L := ne_of_none hB nL
      have kL : ∀ {H' : Hp}, SameBut L H3 H' → Same H3 H' := fun sb b o e => sb b o (ne_of_none e nL) e
      refine lc_list (xs := us) (fun i H' => SameBut L H3 H' ∧ ∃ ts, H' L = some (.lst ts) ∧ Paired (TP H') ts (((seenL [] marks).take i).map (posOf marks))) ⟨SameBut.upd, [], upd_same, .nil⟩ (fun i H' _ hP => .inl (.inl (hP.1 _ _ BL hB))) (fun i x H4 hx hP => ?_) (fun H4 hP => ?_)
      · obtain ⟨sb, ts, hL, pt⟩ := hP
        obtain ⟨r, er, y, rfl, _, _, hy⟩ := paired_get pU hx
        rw [List.getElem?_map] at er
        obtain ⟨v, ev, rfl⟩ := Option.map_eq_some_iff.mp er
        refine ⟨rfl, _, rfl, y, _, rfl, .inl ⟨.inl (.inl (kL sb _ _ hy)), fun t nt => ?_⟩⟩
        have w1 := same_upd (o := .tup ((posOf marks v).map V.int)) nt
        have hL5 := w1 _ _ hL
        have li := (List.getElem?_eq_some_iff.mp hx).1
        refine ⟨ts, hL5, by rw [pt.length, List.length_map, List.length_take]; omega, (sb.trans (Same.but w1)).trans SameBut.upd, _, upd_same, ?_⟩
        rw [List.take_succ, ev, List.map_append]
        exact Paired.mapP (paired_add ⟨t, rfl, upd_same⟩ (Paired.mapP pt fun _ _ h => h.same w1)) fun _ _ h => TP.butL hL5 SameBut.upd h
      · obtain ⟨sb, ts, hL, pt⟩ := hP
        have el : (seenL [] marks).length = us.length := by rw [pU.length, List.length_map]
        rw [← el, List.take_length] at pt
        refine ⟨L, _, rfl, .inl ⟨.inl (.inl hL), fun tb' ntb => ?_⟩⟩
        refine ⟨(by show 3 ≤ sizeLine; decide), fun t nt => ?_⟩
        have q3 := same_upd (o := .tup ts) ntb
        have q4 := same_upd (o := .tup [.int n, .int m, .ref tb']) nt
        have sf := Same.trans q3 q4
        have sA := Same.trans s3 (kL sb)
        exact q (.ref t) _ (Same.trans sA sf) (fun t' e => by cases e; exact none_back (Same.trans sA q3) nt) ⟨t, .ref tb', rfl, upd_same, tb', _, rfl, q4 _ _ upd_same, Paired.mapP pt fun _ _ h => h.same sf⟩
end

section
variable {P : Program} {w : World} {K : PySem.W.Frag} {mg : Str → Option Value} {base : Heap}
/-! ### _law_belongs -/
def spBelongs : Sp := fun vs H Q _ => ∃ (z : Str) (v : V) (n m : Int) (bs : List (List Int)), vs = [.str z, v] ∧ DGv H v n m bs ∧ z ∈ fams ∧ (∀ b ∈ bs, b ≠ []) ∧ Q (.bl (inFam z n bs)) H
theorem ok_law_belongs {f : Addr} {fd : FuncData} (F : Fun K "_law_belongs" "_law_belongs" s_law_belongs f fd) (z_len : mg "len" = none) (z_int : mg "int" = none) :
    FnOk P w K mg base CX0 1 f fd ["family", "diagram"] spBelongs := by
  refine F.ok sc_law_belongs (fun vs H Q E h => ?_) (fun cdv A outer s H vs Q E hr h => ?_)
  · obtain ⟨z, v, n, m, bs, rfl, _⟩ := h
    rfl
  · obtain ⟨z, v, n, m, bs, rfl, hv, mz, nb, q⟩ := h
    refine ⟨_, (pss_cons (ps_asg (pv 1) (pg_tup rfl (pgs_cons (pg_name (i := 2) sc_law_belongs.nd rfl (.inl rfl)) (pgs_cons (pg_name (i := 3) sc_law_belongs.nd rfl (.inl rfl)) (pgs_cons (pg_name (i := 4) sc_law_belongs.nd rfl (.inl rfl)) pgs_nil)))))
  (pss_cons (ps_for PassesOwn.never rfl (pi_tup (pv 4)) (pg_name (i := 5) sc_law_belongs.nd rfl (.inl rfl)) (Evl.pss_cut (ps_set (i := 6) sc_law_belongs.nd rfl (.inl rfl) (pe_and (pe_cmpR op_eq (pe_callB call_len_seq (by rfl) z_len boot_len (pa_cons (pv 5) pa_nil)) pe_int (nomark _)) (pe_one (pe_chain op_lt op_le (pe_ix ix_tup (pv 5) pe_int (fun _ _ => rfl)) (pv 2) (pe_ix ix_tup (pv 5) pe_int (fun _ _ => rfl))))))
  (Evl.pss_cut (ps_if (L2.PW.pt (pw_or (L2.PW.pt (pw_and (pt_cmpR op_eq (pv 0) pe_str (nomark _)) (pw_and1 (pt_not (pt_truth (pv 6) (by intro _; rfl)))))) (pw_or1 (L2.PW.pt (pw_and (pt_cmpR op_eq (pv 0) pe_str (nomark _)) (pw_and (pt_not (pt_truth (pv 6) (by intro _; rfl))) (pw_and1 (pt_cmpR op_gt (pe_callB call_len_seq (by rfl) z_len boot_len (pa_cons (pv 5) pa_nil)) pe_int (nomark _))))))))) (pss_one (ps_ret pe_bl)) pss_nil)
  (Evl.pss_cut (ps_if (L2.PW.pt (pw_or (L2.PW.pt (pw_and (pt_cmpR op_eq (pv 0) pe_str (nomark _)) (pw_and1 (pt_cmpR op_ne (pe_callB call_len_seq (by rfl) z_len boot_len (pa_cons (pv 5) pa_nil)) pe_int (nomark _))))) (pw_or1 (L2.PW.pt (pw_and (pt_cmpR op_eq (pv 0) pe_str (nomark _)) (pw_and1 (pt_cmpR op_gt (pe_callB call_len_seq (by rfl) z_len boot_len (pa_cons (pv 5) pa_nil)) pe_int (nomark _)))))))) (pss_one (ps_ret pe_bl)) pss_nil)
  (pss_one (ps_if (L2.PW.pt (pw_and (pt_cmpR op_eq (pv 0) pe_str (nomark _)) (pw_and1 (pt_cmpR op_eq (pe_op op_mod (pe_callTy call_int1 (by rfl) z_int boot_int (pa_cons (pe_callB call_len_seq (by rfl) z_len boot_len (pa_cons (pv 5) pa_nil)) pa_nil)) pe_int) pe_int (nomark _))))) (pss_one (ps_ret pe_bl)) pss_nil))))))
  (pss_one (ps_ret pe_bl)))), ?_⟩
    obtain ⟨t, vb, rfl, ht, tb, ts, rfl, htb, pr⟩ := id hv
    refine ⟨_, rfl, t, _, rfl, .inl (.inl ht), rfl, _, _, rfl, _, _, rfl, _, _, rfl, rfl, ?_⟩
    refine ⟨_, rfl, tb, rfl, ⟨_, .inl (.inl htb)⟩, for_it walk_tup (fun i σ H' => ∃ v5 v6 : Option V, σ = [some (.str z), some (.ref t), some (.int n), some (.int m), some (.ref tb), v5, v6] ∧ H' = H ∧ (bs.take i).all (blockOk z n) = true) ⟨none, none, rfl, rfl, rfl⟩ (fun i σ H' _ ⟨_, _, _, e, _⟩ => by rw [e]; exact .inl (.inl htb)) (fun i x σ H1 H2 hi hP hy => ?_) (fun σ H1 hP => ?_)⟩
    · obtain ⟨v5, v6, rfl, rfl, al⟩ := hP
      obtain ⟨rfl, ey⟩ := hy
      obtain ⟨b, eb, u, rfl, hu⟩ := tt_get pr ey
      have et : (bs.take (i + 1)).all (blockOk z n) = blockOk z n b := by
        rw [List.take_succ, eb, List.all_append, al, Bool.true_and]
        exact Bool.and_true _
      have mb := List.mem_of_getElem? eb
      have bad : blockOk z n b = false → inFam z n bs = false := fun h => by
        cases e : inFam z n bs with
        | false => rfl
        | true => exact nomatch h.symm.trans (List.all_eq_true.mp e b mb)
      refine ⟨fun σ H' => σ = [some (.str z), some (.ref t), some (.int n), some (.int m), some (.ref tb), some (.ref u), some (.bl (strandB n b))] ∧ H' = H2, ?_, ?_⟩
      · refine ⟨_, rfl, u, _, rfl, .inr (.inl (.inl hu)), rfl, _, rfl, ?_⟩
        rw [List.length_map]
        by_cases l2 : b.length = 2
        · refine if_pos_of (decide_eq_true (by rw [l2]; rfl)) ?_
          obtain ⟨x, y, rfl⟩ : ∃ x y, b = [x, y] := by
            match b, l2 with
            | [x, y], _ => exact ⟨x, y, rfl⟩
          have es : strandB n [x, y] = (decide (x < n) && decide (n ≤ y)) := by
            show (true && decide (x < n ∧ n ≤ y)) = _
            rw [Bool.true_and, Bool.decide_and]
          rw [es]
          refine ⟨_, rfl, u, _, 0, .int x, rfl, rfl, .inl (.inl hu), atI_nat (j := 0) rfl, _, rfl, _, _, rfl, rfl, _, rfl, ?_⟩
          by_cases c1 : x < n
          · rw [decide_eq_true c1]
            exact iteT ⟨_, rfl, u, _, 1, .int y, rfl, rfl, .inl (.inl hu), atI_nat (j := 1) rfl, _, _, rfl, rfl, rfl, rfl⟩
          · rw [decide_eq_false c1]
            exact iteF ⟨rfl, rfl⟩
        · refine if_neg_of (fun z => l2 (by have := V.int.inj (of_decide_eq_true z); omega)) ⟨?_, rfl⟩
          have : strandB n b = false := by
            unfold strandB
            rw [decide_eq_false l2]
            rfl
          rw [this]
          rfl
      rintro σ H1 ⟨rfl, rfl⟩
      have bOk : ∀ {x : Str}, z = x → blockOk z n b = blockOk x n b := fun e => by rw [e]
      refine ⟨fun σ H' => σ = [some (.str z), some (.ref t), some (.int n), some (.int m), some (.ref tb), some (.ref u), some (.bl (strandB n b))] ∧ H' = H1 ∧ (z = "threads" ∨ z = "loose" → blockOk z n b = true), ?_, ?_⟩
      · have hq : blockOk z n b = false → Q (.bl false) H1 := fun h => by rw [bad h] at q; exact q
        refine ⟨_, rfl, rfl, _, rfl, ?_⟩
        by_cases c1 : z = "threads"
        · refine if_pos_of (decide_eq_true (congrArg V.str c1)) ?_
          have e1 : blockOk z n b = strandB n b := bOk c1
          cases cs : strandB n b with
          | true =>
            refine ⟨_, rfl, true, rfl, if_neg_of Bool.false_ne_true ?_⟩
            refine ⟨_, rfl, rfl, _, rfl, if_neg_of (fun z => by have := V.str.inj (of_decide_eq_true z); rw [c1] at this; exact absurd this (by decide)) (if_neg_of Bool.false_ne_true ⟨rfl, rfl, fun _ => by rw [e1, cs]⟩)⟩
          | false =>
            exact ⟨_, rfl, false, rfl, if_pos_of rfl (iteT (hq (by rw [e1, cs])))⟩
        · refine if_neg_of (fun z => c1 (V.str.inj (of_decide_eq_true z))) (if_neg_of Bool.false_ne_true ?_)
          refine ⟨_, rfl, rfl, _, rfl, ?_⟩
          by_cases c2 : z = "loose"
          · refine if_pos_of (decide_eq_true (congrArg V.str c2)) ?_
            have e1 : blockOk z n b = (decide (b.length = 1) || strandB n b) := bOk c2
            cases cs : strandB n b with
            | true =>
              exact ⟨_, rfl, true, rfl, if_neg_of Bool.false_ne_true (if_neg_of Bool.false_ne_true ⟨rfl, rfl, fun _ => by rw [e1, cs, Bool.or_true]⟩)⟩
            | false =>
              refine ⟨_, rfl, false, rfl, if_pos_of rfl ⟨_, rfl, u, _, rfl, .inr (.inl (.inl hu)), _, _, rfl, rfl, _, rfl, ?_⟩⟩
              rw [List.length_map]
              have bne : b ≠ [] := nb b mb
              have lpos := List.length_pos_iff.mpr bne
              by_cases c3 : b.length = 1
              · exact if_neg_of (fun z => by have := of_decide_eq_true z; omega) ⟨rfl, rfl, fun _ => by rw [e1, decide_eq_true c3]; rfl⟩
              · exact if_pos_of (decide_eq_true (by omega)) (hq (by rw [e1, cs, decide_eq_false c3]; rfl))
          · exact if_neg_of (fun z => c2 (V.str.inj (of_decide_eq_true z))) (if_neg_of Bool.false_ne_true ⟨rfl, rfl, fun h => absurd h (fun h => h.elim c1 c2)⟩)
      rintro σ H1 ⟨rfl, rfl, k1⟩
      have hq : blockOk z n b = false → Q (.bl false) H1 := fun h => by rw [bad h] at q; exact q
      have sz : ∀ {x : Str}, z = x → x ≠ "threads" → x ≠ "loose" → blockOk z n b = sizeOk x b.length := fun {x} e h1 h2 => by
        rw [e]
        unfold blockOk
        rw [if_neg h1, if_neg h2]
      refine ⟨fun σ H' => σ = [some (.str z), some (.ref t), some (.int n), some (.int m), some (.ref tb), some (.ref u), some (.bl (strandB n b))] ∧ H' = H1 ∧ (z ≠ "even" → blockOk z n b = true), ?_, ?_⟩
      · refine ⟨_, rfl, rfl, _, rfl, ?_⟩
        by_cases c1 : z = "pairs"
        · refine if_pos_of (decide_eq_true (congrArg V.str c1)) ?_
          have e1 : blockOk z n b = decide (b.length = 2) := sz c1 (by decide) (by decide)
          refine ⟨_, rfl, u, _, rfl, .inr (.inl (.inl hu)), rfl, _, rfl, ?_⟩
          rw [List.length_map]
          by_cases c3 : b.length = 2
          · refine if_neg_of (by rw [show V.int ((b.length : Nat) : Int) = V.int 2 by rw [c3]; rfl, decide_eq_true rfl]; exact Bool.false_ne_true) ?_
            refine ⟨_, rfl, rfl, _, rfl, if_neg_of (fun z => by have := V.str.inj (of_decide_eq_true z); rw [c1] at this; exact absurd this (by decide)) (if_neg_of Bool.false_ne_true ⟨rfl, rfl, fun _ => by rw [e1, decide_eq_true c3]⟩)⟩
          · exact if_pos_of (by rw [decide_eq_false fun z => c3 (by have := V.int.inj z; omega)]; rfl) (iteT (hq (by rw [e1, decide_eq_false c3])))
        · refine if_neg_of (fun z => c1 (V.str.inj (of_decide_eq_true z))) (if_neg_of Bool.false_ne_true ?_)
          refine ⟨_, rfl, rfl, _, rfl, ?_⟩
          by_cases c2 : z = "lonepairs"
          · refine if_pos_of (decide_eq_true (congrArg V.str c2)) ?_
            have e1 : blockOk z n b = decide (b.length ≤ 2) := sz c2 (by decide) (by decide)
            refine ⟨_, rfl, u, _, rfl, .inr (.inl (.inl hu)), _, _, rfl, rfl, _, rfl, ?_⟩
            rw [List.length_map]
            by_cases c3 : b.length ≤ 2
            · exact if_neg_of (fun z => by have := of_decide_eq_true z; omega) ⟨rfl, rfl, fun _ => by rw [e1, decide_eq_true c3]⟩
            · exact if_pos_of (decide_eq_true (by omega)) (hq (by rw [e1, decide_eq_false c3]))
          · refine if_neg_of (fun z => c2 (V.str.inj (of_decide_eq_true z))) (if_neg_of Bool.false_ne_true ⟨rfl, rfl, fun ne => ?_⟩)
            by_cases c3 : z = "threads" ∨ z = "loose"
            · exact k1 c3
            · have : z = "parts" := by
                unfold fams at mz
                simp only [List.mem_cons, List.not_mem_nil, or_false] at mz
                rcases mz with h | h | h | h | h | h
                · exact absurd (.inl h) c3
                · exact absurd (.inr h) c3
                · exact absurd h c1
                · exact absurd h c2
                · exact absurd h ne
                · exact h
              rw [sz this (by decide) (by decide)]
              rfl
      clear k1
      rintro σ H1 ⟨rfl, rfl, k1⟩
      have fin : blockOk z n b = true → (bs.take (i + 1)).all (blockOk z n) = true := fun h => by rw [et]; exact h
      refine ⟨_, rfl, rfl, _, rfl, ?_⟩
      by_cases c1 : z = "even"
      · refine if_pos_of (decide_eq_true (congrArg V.str c1)) ?_
        have e1 : blockOk z n b = decide (b.length % 2 = 0) := sz c1 (by decide) (by decide)
        refine ⟨_, rfl, u, _, rfl, .inr (.inl (.inl hu)), .inl ⟨_, rfl, _, 2, rfl, rfl, (show (0 : Int) < 2 by decide), rfl, _, rfl, ?_⟩⟩
        rw [List.length_map]
        by_cases c3 : b.length % 2 = 0
        · exact if_neg_of (fun z => by have := V.int.inj (of_decide_eq_true z); omega) ⟨_, _, rfl, rfl, fin (by rw [e1, decide_eq_true c3])⟩
        · exact if_pos_of (decide_eq_true (congrArg V.int (show ((b.length : Nat) : Int) % 2 = 1 by omega))) (hq (by rw [e1, decide_eq_false c3]))
      · exact if_neg_of (fun z => c1 (V.str.inj (of_decide_eq_true z))) (if_neg_of Bool.false_ne_true ⟨_, _, rfl, rfl, fin (k1 c1)⟩)
    · obtain ⟨v5, v6, rfl, rfl, al⟩ := hP
      rw [pr.length, List.take_length] at al
      have : inFam z n bs = true := al
      rw [this] at q
      exact q
end

/-! ### _law_all -/
def mxI (row : List Int) : Int := row.foldl max (-1)
def nxR (row : List Int) (j : Nat) : List (List Int) := (List.range j).map fun (u : Nat) => row ++ [(u : Int)]
def topR (row : List Int) : Nat := (mxI row + 2).toNat
def accR (l : List (List Int)) : List (List Int) := (l.map fun row => nxR row (topR row)).flatten
def rgR : Nat → List (List Int)
  | 0 => [[]]
  | k + 1 => accR (rgR k)
theorem accR_snoc (l : List (List Int)) (row : List Int) : accR (l ++ [row]) = accR l ++ nxR row (topR row) := by
  unfold accR
  rw [List.map_append, List.flatten_append]
  show _ ++ (_ ++ []) = _
  rw [List.append_nil]
theorem accR_take (l : List (List Int)) (i : Nat) : (accR (l.take i)).length ≤ (accR l).length := by
  conv => rhs; rw [← List.take_append_drop i l]
  unfold accR
  rw [List.map_append, List.flatten_append, List.length_append]
  omega
theorem nxR_take {row : List Int} {d j : Nat} (h : j < d) : (nxR row d).take (j + 1) = (nxR row d).take j ++ [row ++ [(j : Int)]] := by
  unfold nxR
  rw [List.take_succ, List.getElem?_map, List.getElem?_range h]
  rfl
theorem nxR_len (row : List Int) (d : Nat) : (nxR row d).length = d := by
  unfold nxR
  rw [List.length_map, List.length_range]
theorem fold_max : ∀ (l : List Int) (a m : Int), m ∈ a :: l → (∀ y ∈ a :: l, y ≤ m) → l.foldl max a = m
  | [], a, m, h, _ => (List.mem_singleton.mp h).symm
  | x :: l, a, m, h, k => by
    show l.foldl max (max a x) = m
    have ka := k a List.mem_cons_self
    have kx := k x (List.mem_cons_of_mem _ List.mem_cons_self)
    refine fold_max l _ m ?_ fun y hy => ?_
    · rcases List.mem_cons.mp h with h | h
      · rw [show max a x = m by omega]; exact List.mem_cons_self
      · rcases List.mem_cons.mp h with h | h
        · rw [show max a x = m by omega]; exact List.mem_cons_self
        · exact List.mem_cons_of_mem _ h
    · rcases List.mem_cons.mp hy with hy | hy
      · omega
      · exact k y (List.mem_cons_of_mem _ (List.mem_cons_of_mem _ hy))
theorem rgR_ok : ∀ {k : Nat} {row : List Int}, row ∈ rgR k → row.length = k ∧ mxI row < (k : Int)
  | 0, row, h => by
    rw [List.mem_singleton.mp h]
    exact ⟨rfl, by decide⟩
  | k + 1, row, h => by
    obtain ⟨l, hl, hx⟩ := List.mem_flatten.mp (show row ∈ (_ : List (List (List Int))).flatten from h)
    obtain ⟨g, hg, rfl⟩ := List.mem_map.mp hl
    obtain ⟨u, hu, rfl⟩ := List.mem_map.mp hx
    obtain ⟨a, b⟩ := rgR_ok hg
    have hu := List.mem_range.mp hu
    unfold topR at hu
    refine ⟨by rw [List.length_append, a]; rfl, ?_⟩
    unfold mxI at b hu ⊢
    rw [List.foldl_append]
    show max _ (u : Int) < _
    omega
section
variable {P : Program} {w : World} {K : PySem.W.Frag} {mg : Str → Option Value} {base : Heap}
def spAll : Sp := fun vs H Q _ => ∃ (z : Str) (n m : Nat), vs = [.str z, .int (n : Int), .int (m : Int)] ∧ z ∈ fams ∧ siz n m = true ∧ (∀ k, k ≤ n + m → (rgR k).length ≤ 5000) ∧ ∀ L us H', Same H H' → H' L = some (.lst us) → Paired (fun v bs => DGv H' v n m bs) us (((rgR (n + m)).map blocksOf).filter (inFam z n)) → Q (.ref L) H'
theorem ok_law_all {f : Addr} {fd : FuncData} (F : Fun K "_law_all" "_law_all" s_law_all f fd) (z_range : mg "range" = none) (z_max : mg "max" = none)
    {a_law_marked : Addr} {fd_law_marked : FuncData} (G_law_marked : FnOk P w K mg base CX0 1 a_law_marked fd_law_marked ["n", "m", "marks"] (spMarked K)) (g_law_marked : mg "_law_marked" = some (.ref a_law_marked)) (k_law_marked : PySem.W.keepIn K (.ref a_law_marked) = true) (b_law_marked : Binds K fd_law_marked ["n", "m", "marks"] [])
    {a_law_belongs : Addr} {fd_law_belongs : FuncData} (G_law_belongs : FnOk P w K mg base CX0 1 a_law_belongs fd_law_belongs ["family", "diagram"] spBelongs) (g_law_belongs : mg "_law_belongs" = some (.ref a_law_belongs)) (k_law_belongs : PySem.W.keepIn K (.ref a_law_belongs) = true) (b_law_belongs : Binds K fd_law_belongs ["family", "diagram"] []) :
    FnOk P w K mg base CX0 2 f fd ["family", "n", "m"] spAll := by
  refine F.ok sc_law_all (fun vs H Q E h => ?_) (fun cdv A outer s H vs Q E hr h => ?_)
  · obtain ⟨z, n, m, rfl, _⟩ := h
    rfl
  · obtain ⟨z, n, m, rfl, mz, sz, few, q⟩ := h
    refine ⟨_, (pss_cons (ps_set (i := 3) sc_law_all.nd rfl (.inl rfl) (pe_lst (pa_cons (pe_tup pa_nil) pa_nil)))
  (pss_cons (ps_for PassesOwn.never rfl (pi_range1 rfl z_range (pa_cons (pe_op op_add (pv 1) (pv 2)) pa_nil)) (pg_name (i := 4) sc_law_all.nd rfl (.inl rfl)) (pss_cons (ps_set (i := 5) sc_law_all.nd rfl (.inl rfl) (pe_lst pa_nil))
  (pss_cons (ps_for PassesOwn.never rfl (pi_list (pv 3)) (pg_name (i := 6) sc_law_all.nd rfl (.inr rfl)) (pss_one (ps_set (i := 5) sc_law_all.nd rfl (.inl rfl) (pe_op op_cat (pv 5) (pe_lc (own := [("label", 9)]) rfl sc_law_all.nd (pi_range1 rfl z_range (pa_cons (pe_op op_add (pe_callB (cr_maxTI rfl (room64 hr)) (by rfl) z_max boot_max (pa_cons (pe_op op_catC (pe_tup (pa_cons (pe_un un_neg pe_int) pa_nil)) (pv 6)) pa_nil)) pe_int) pa_nil)) (blkOk_by (N := ["family", "n", "m", "rows", "j", "longer", "row", "found", "diagram", "label"]) (sc := defScope s_law_all) (by first | decide +kernel | rfl)) (fun _ _ _ _ _ => (pg_name (i := 9) sc_law_all.nd rfl (.inl rfl))) (fun _ _ _ _ _ => pts_nil) (fun _ _ _ _ _ => (pe_op op_catC (pv 6) (pe_tup (pa_cons (pv 9) pa_nil)))))))))
  (pss_one (ps_set (i := 3) sc_law_all.nd rfl (.inl rfl) (pv 5))))))
  (pss_cons (ps_setLc (i := 7) (own := [("row", 6)]) rfl sc_law_all.nd rfl rfl (sw_true rfl rfl rfl (by decide +kernel)) (pi_list (pv 3)) (blkOk_by (N := ["family", "n", "m", "rows", "j", "longer", "row", "found", "diagram", "label"]) (sc := defScope s_law_all) (by first | decide +kernel | rfl)) (fun _ _ _ _ _ => (pg_name (i := 6) sc_law_all.nd rfl (.inl rfl))) (fun _ _ _ _ _ => pts_nil) (fun _ _ _ _ _ => (pe_call G_law_marked (hr.mono (by decide)) rfl g_law_marked k_law_marked b_law_marked .nil pass0 (pa_cons (pv 1) (pa_cons (pv 2) (pa_cons (pv 6) pa_nil))))))
  (pss_one (ps_ret (pe_lc (own := [("diagram", 8)]) rfl sc_law_all.nd (pi_list (pv 7)) (blkOk_by (N := ["family", "n", "m", "rows", "j", "longer", "row", "found", "diagram", "label"]) (sc := defScope s_law_all) (by first | decide +kernel | rfl)) (fun _ _ _ _ _ => (pg_name (i := 8) sc_law_all.nd rfl (.inl rfl))) (fun _ _ _ _ _ => pts_one (pt_val (pe_call G_law_belongs (hr.mono (by decide)) rfl g_law_belongs k_law_belongs b_law_belongs .nil pass0 (pa_cons (pv 0) (pa_cons (pv 8) pa_nil))))) (fun _ _ _ _ _ => (pv 8)))))))), ?_⟩
    have szl : 20000 ≤ sizeLine := by decide
    have hs := siz_iff.mp sz
    refine ⟨(by show 0 ≤ sizeLine; omega), fun e1 ne1 => ⟨(by show 1 ≤ sizeLine; omega), fun R0 nR0 => ?_⟩⟩
    have w0 := same_upd (o := .lst [V.ref e1]) nR0
    have s1 : Same H (upd (upd H e1 (.tup [])) R0 (.lst [.ref e1])) := Same.trans (same_upd ne1) w0
    have pr1 : Paired (TP (upd (upd H e1 (.tup [])) R0 (.lst [.ref e1]))) [.ref e1] (rgR 0) := .cons ⟨e1, rfl, w0 _ _ upd_same⟩ .nil
    have hR1 : upd (upd H e1 (.tup [])) R0 (.lst [.ref e1]) R0 = some (.lst [.ref e1]) := upd_same
    generalize upd (upd H e1 (.tup [])) R0 (.lst [.ref e1]) = H1 at *
    refine ⟨_, rfl, _, rfl, _, _, rfl, rfl, (n : Int) + (m : Int), rfl, by omega, by omega, ?_⟩
    rw [show ((n : Int) + (m : Int)).toNat = n + m by omega]
    refine for_range (lo := 0) (n := n + m) (fun k σ H' => ∃ (R : Addr) (ps : List V) (v4 v5 v6 : Option V), σ = [some (.str z), some (.int (n : Int)), some (.int (m : Int)), some (.ref R), v4, v5, v6, none, none, none] ∧ Same H H' ∧ H' R = some (.lst ps) ∧ Paired (TP H') ps (rgR k))
      ⟨R0, _, none, none, none, rfl, s1, hR1, pr1⟩ (fun k σ H3 hk hP => ?_) (fun σ H3 hP => ?_)
    · obtain ⟨R, ps, v4, v5, v6, rfl, s3, hR, pr⟩ := hP
      refine ⟨(by show 0 ≤ sizeLine; omega), fun L nL => ?_⟩
      have tot : (accR (rgR k)).length ≤ 5000 := few (k + 1) (by omega)
      have w1 := same_upd (o := .lst []) nL
      refine ⟨_, rfl, R, rfl, ⟨_, .inl (.inl (w1 _ _ hR))⟩, for_list (xs := ps) (fun i σ H' => ∃ (L : Addr) (qs : List V) (v6 : Option V), σ = [some (.str z), some (.int (n : Int)), some (.int (m : Int)), some (.ref R), some (.int (0 + (k : Int))), some (.ref L), v6, none, none, none] ∧ Same H3 H' ∧ H' L = some (.lst qs) ∧ Paired (TP H') qs (accR ((rgR k).take i)))
        ⟨L, [], v6, rfl, w1, upd_same, .nil⟩ (fun i σ H' _ ⟨_, _, _, _, s', _⟩ => .inl (.inl (s' _ _ hR))) (fun i x σ H4 hx hP => ?_) (fun σ H4 hP => ?_)⟩
      · obtain ⟨L, qs, v6, rfl, s4, hL, pq⟩ := hP
        obtain ⟨row, er, ax, rfl, hax⟩ := paired_get pr hx
        have et : (rgR k).take (i + 1) = (rgR k).take i ++ [row] := by rw [List.take_succ, er]; rfl
        have atk := accR_take (rgR k) (i + 1)
        rw [et, accR_snoc] at atk ⊢
        rw [List.length_append, nxR_len] at atk
        obtain ⟨lrow, mrow⟩ := rgR_ok (List.mem_of_getElem? er)
        have ha4 := s4 _ _ hax
        refine ⟨_, rfl, 1, rfl, (by show 1 ≤ sizeLine; omega), fun q0 nq0 => ?_⟩
        have x0 := same_upd (o := .tup [V.int (-1)]) nq0
        refine ⟨_, rfl, q0, ax, _, _, rfl, rfl, upd_same, x0 _ _ ha4, by rw [List.length_map]; show 1 + _ ≤ _; omega, fun q1 H5 x1 hq1 => ?_⟩
        have x1 := Same.trans x0 x1
        refine ⟨q1, -1 :: row, rfl, .inl (.inl hq1), by rw [List.length_cons]; omega, fun mm hm hle => ?_⟩
        have emx : mxI row = mm := fold_max row (-1) mm hm hle
        have mp := hle (-1) List.mem_cons_self
        have et2 : topR row = (mm + 2).toNat := by unfold topR; rw [emx]
        refine ⟨_, _, rfl, rfl, mm + 2, rfl, by omega, by omega, fun D nD => ?_⟩
        rw [← et2]
        have s45 := Same.trans s4 x1
        have ha5 := x1 _ _ ha4
        have hL5 := x1 _ _ hL
        have pq5 : Paired (TP H5) qs (accR ((rgR k).take i)) := Paired.mapP pq fun _ _ h => h.same x1
        have aD : ax ≠ D := ne_of_none ha5 nD
        refine lc_range (lo := 0) (n := topR row) (fun j H' => SameBut D H5 H' ∧ ∃ us, H' D = some (.lst us) ∧ Paired (TP H') us ((nxR row (topR row)).take j)) ⟨SameBut.upd, [], upd_same, .nil⟩ (fun j H6 hj hP => ?_) (fun H6 hP => ?_)
        · obtain ⟨sb, us, hD, pu⟩ := hP
          refine ⟨rfl, ?_⟩
          rw [show (0 : Int) + (j : Int) = (j : Int) from Int.zero_add _]
          have lu : us.length ≤ 1000 := by
            rw [pu.length, List.length_take]
            omega
          have ha6 := sb _ _ aD ha5
          refine ⟨_, rfl, _, rfl, (by show 1 ≤ sizeLine; omega), fun q1 nq1 => ?_⟩
          have x1 := same_upd (o := .tup [V.int (j : Int)]) nq1
          refine ⟨_, _, _, _, rfl, rfl, x1 _ _ ha6, upd_same, by rw [List.length_map]; show _ + 1 ≤ _; omega, fun q2 H7 x2 hq2 => ?_⟩
          have x2 := Same.trans x1 x2
          have hq2 : H7 q2 = some (.tup ((row ++ [(j : Int)]).map V.int)) := by rw [hq2, List.map_append]; rfl
          have hD7 := x2 _ _ hD
          refine ⟨_, hD7, by omega, sb.trans fun b o nb e => SameBut.upd b o nb (x2 b o e), _, upd_same, ?_⟩
          rw [nxR_take hj]
          exact Paired.mapP (paired_add ⟨q2, rfl, hq2⟩ (Paired.mapP pu fun _ _ h => h.same x2)) fun _ _ h => TP.butL hD7 SameBut.upd h
        · obtain ⟨sb, us, hD, pu⟩ := hP
          rw [List.take_of_length_le (Nat.le_of_eq (nxR_len row _))] at pu
          have s56 : Same H5 H6 := fun b o e => sb b o (ne_of_none e nD) e
          refine ⟨_, _, _, _, rfl, rfl, s56 _ _ hL5, hD, ?_, fun M nM => ?_⟩
          · rw [pq.length, pu.length, nxR_len]
            omega
          · have y1 := Same.trans s56 (same_upd (o := .lst (qs ++ us)) nM)
            refine ⟨M, _, _, rfl, Same.trans s45 y1, upd_same, paired_app (Paired.mapP pq5 fun _ _ h => h.same y1) (Paired.mapP pu fun _ _ h => h.same (same_upd nM))⟩
      · obtain ⟨L, qs, v6, rfl, s4, hL, pq⟩ := hP
        rw [pr.length, List.take_length] at pq
        exact ⟨_, rfl, L, qs, _, _, _, rfl, Same.trans s3 s4, hL, pq⟩
    · obtain ⟨R, ps, v4, v5, v6, rfl, s3, hR, pr⟩ := hP
      have lr := few (n + m) (Nat.le_refl _)
      refine ⟨_, rfl, R, rfl, ⟨_, .inl (.inl hR)⟩, fun D nD => ?_⟩
      have RD : R ≠ D := ne_of_none hR nD
      have kD : ∀ {H' : Hp}, SameBut D H3 H' → Same H3 H' := fun sb b o e => sb b o (ne_of_none e nD) e
      refine lc_list (xs := ps) (fun i H' => SameBut D H3 H' ∧ ∃ us, H' D = some (.lst us) ∧ Paired (fun v bs => DGv H' v n m bs) us (((rgR (n + m)).take i).map blocksOf)) ⟨SameBut.upd, [], upd_same, .nil⟩ (fun i H' _ hP => .inl (.inl (hP.1 _ _ RD hR))) (fun i x H4 hx hP => ?_) (fun H4 hP => ?_)
      · obtain ⟨sb, us, hD, pu⟩ := hP
        obtain ⟨row, er, ax, rfl, hax⟩ := paired_get pr hx
        obtain ⟨lrow, _⟩ := rgR_ok (List.mem_of_getElem? er)
        refine ⟨rfl, _, rfl, _, rfl, _, rfl, n, m, ax, row, rfl, .inl (.inl (kD sb _ _ hax)), by omega, by omega, fun v H5 s5 _ dv => ?_⟩
        have hD5 := s5 _ _ hD
        refine ⟨_, hD5, by rw [pu.length, List.length_map, List.length_take]; omega, (sb.trans (Same.but s5)).trans SameBut.upd, _, upd_same, ?_⟩
        rw [List.take_succ, er, List.map_append]
        have pu5 : Paired (fun v bs => DGv H5 v (n : Int) (m : Int) bs) us _ := Paired.mapP pu fun _ _ h => DGv.same s5 h
        exact Paired.mapP (paired_add (F := fun v bs => DGv H5 v (n : Int) (m : Int) bs) dv pu5) fun _ _ h => DGv.butL hD5 SameBut.upd h
      · obtain ⟨sb, us, hD, pu⟩ := hP
        rw [pr.length, List.take_length] at pu
        have s34 := kD sb
        have lu := pu.length
        rw [List.length_map] at lu
        refine ⟨_, rfl, D, rfl, ⟨_, .inl (.inl hD)⟩, fun D2 nD2 => ?_⟩
        have DD : D ≠ D2 := ne_of_none hD nD2
        have kD2 : ∀ {H' : Hp}, SameBut D2 H4 H' → Same H4 H' := fun sb b o e => sb b o (ne_of_none e nD2) e
        refine lc_list (xs := us) (fun i H' => SameBut D2 H4 H' ∧ ∃ ws, ws.length ≤ i ∧ H' D2 = some (.lst ws) ∧ Paired (fun v bs => DGv H' v n m bs) ws ((((rgR (n + m)).map blocksOf).take i).filter (inFam z n))) ⟨SameBut.upd, [], Nat.le_refl _, upd_same, .nil⟩ (fun i H' _ hP => .inl (.inl (hP.1 _ _ DD hD))) (fun i x H5 hx hP => ?_) (fun H5 hP => ?_)
        · obtain ⟨sb2, ws, lw, hD2, pw⟩ := hP
          obtain ⟨bs, eb, dv⟩ := paired_get pu hx
          have li := (List.getElem?_eq_some_iff.mp hx).1
          have nb : ∀ b ∈ bs, b ≠ [] := by
            obtain ⟨row, _, rfl⟩ := List.mem_map.mp (List.mem_of_getElem? eb)
            exact blocks_ne
          have dv5 : DGv H5 x n m bs := DGv.same (kD2 sb2) dv
          have et : (((rgR (n + m)).map blocksOf).take (i + 1)).filter (inFam z n) = (((rgR (n + m)).map blocksOf).take i).filter (inFam z n) ++ (if inFam z n bs = true then [bs] else []) := by
            rw [List.take_succ, eb, List.filter_append]
            show _ ++ List.filter _ [bs] = _
            rw [List.filter_cons]
            rfl
          refine ⟨rfl, _, rfl, _, rfl, z, x, n, m, bs, rfl, dv5, mz, nb, _, rfl, ?_⟩
          by_cases c : inFam z n bs = true
          · refine if_pos_of c ⟨_, rfl, ws, hD2, by omega, sb2.trans SameBut.upd, _, by rw [List.length_append]; show _ + 1 ≤ _; omega, upd_same, ?_⟩
            rw [et, if_pos c]
            exact Paired.mapP (paired_add (F := fun v bs => DGv H5 v (n : Int) (m : Int) bs) dv5 pw) fun _ _ h => DGv.butL hD2 SameBut.upd h
          · refine if_neg_of c ⟨sb2, ws, by omega, hD2, ?_⟩
            rw [et, if_neg c, List.append_nil]
            exact pw
        · obtain ⟨sb2, ws, lw, hD2, pw⟩ := hP
          rw [pu.length, List.take_length] at pw
          exact q D2 ws H5 (Same.trans s3 (Same.trans s34 (kD2 sb2))) hD2 pw
end

section
variable {P : Program} {w : World} {K : PySem.W.Frag} {mg : Str → Option Value} {base : Heap}
/-! ### _law_marks -/
def spMarks : Sp := fun vs H Q _ => ∃ (v : V) (n m : Int) (bs : List (List Int)), vs = [v] ∧ DGv H v n m bs ∧ IsDg n m bs ∧ bs.length ≤ 1000 ∧ ∀ D H', Same H H' → H D = none → H' D = some (.lst ((labL bs (n + m).toNat).map V.int)) → Q (.ref D) H'
theorem ok_law_marks {f : Addr} {fd : FuncData} (F : Fun K "_law_marks" "_law_marks" s_law_marks f fd) (z_len : mg "len" = none) (z_range : mg "range" = none) : FnOk P w K mg base CX0 1 f fd ["diagram"] spMarks := by
  refine F.ok sc_law_marks (fun vs H Q E h => ?_) (fun cdv A outer s H vs Q E hr h => ?_)
  · obtain ⟨v, n, m, bs, rfl, _⟩ := h
    rfl
  · obtain ⟨v, n, m, bs, rfl, hv, dg, lb, q⟩ := h
    refine ⟨_, (pss_cons (ps_set (i := 1) sc_law_marks.nd rfl (.inl rfl) (pe_op op_rep (pe_lst (pa_cons pe_int pa_nil)) (pe_op op_add (pe_ix ix_tup (pv 0) pe_int (fun _ _ => rfl)) (pe_ix ix_tup (pv 0) pe_int (fun _ _ => rfl)))))
  (pss_cons (ps_for PassesOwn.never rfl (pi_range1 rfl z_range (pa_cons (pe_callB call_len_seq (by rfl) z_len boot_len (pa_cons (pe_ix ix_tup (pv 0) pe_int (fun _ _ => rfl)) pa_nil)) pa_nil)) (pg_name (i := 2) sc_law_marks.nd rfl (.inl rfl)) (pss_one (ps_for PassesOwn.never rfl (pi_tup (pe_ix ix_tup (pe_ix ix_tup (pv 0) pe_int (fun _ _ => rfl)) (pv 2) (fun _ _ => rfl))) (pg_name (i := 3) sc_law_marks.nd rfl (.inl rfl)) (pss_one (ps_asg (pv 2) (pg_sub (pv 1) (pv 3) set_list))))))
  (pss_one (ps_ret (pv 1))))), ?_⟩
    have szl : 20000 ≤ sizeLine := by decide
    have hs := siz_iff.mp dg.sz
    obtain ⟨t, vb, rfl, ht, tb, ts, rfl, htb, pr⟩ := hv
    have lts : ts.length = bs.length := pr.length
    obtain ⟨N, eN⟩ : ∃ N : Nat, n + m = (N : Int) := ⟨(n + m).toNat, by omega⟩
    refine ⟨(by show 1 ≤ sizeLine; decide), fun z nz => ?_⟩
    have q0 := same_upd (o := .lst [.int 0]) nz
    refine ⟨_, rfl, t, _, 0, .int n, rfl, rfl, .inl (.inl (q0 _ _ ht)), atI_nat (j := 0) rfl, _, rfl, t, _, 1, .int m, rfl, rfl, .inl (.inl (q0 _ _ ht)), atI_nat (j := 1) rfl, _, _, rfl, rfl, z, _, _, rfl, rfl, upd_same, ?_⟩
    dsimp only
    rw [eN]
    refine ⟨by omega, by omega, by show 1 * _ ≤ sizeLine; omega, fun D nD => ?_⟩
    rw [show ((N : Nat) : Int).toNat = N from rfl, rep0]
    have s1 : Same H (upd (upd H z (.lst [.int 0])) D (.lst ((List.replicate N (0 : Int)).map V.int))) := Same.trans q0 (same_upd nD)
    have hD1 : upd (upd H z (.lst [.int 0])) D (.lst ((List.replicate N (0 : Int)).map V.int)) D = some (.lst ((List.replicate N (0 : Int)).map V.int)) := upd_same
    have nD0 := none_back q0 nD
    revert s1 hD1
    generalize upd (upd H z (.lst [.int 0])) D (.lst ((List.replicate N (0 : Int)).map V.int)) = H1
    intro s1 hD1
    refine ⟨_, rfl, t, _, 2, .ref tb, rfl, rfl, .inl (.inl (s1 _ _ ht)), atI_nat (j := 2) rfl, tb, _, rfl, .inr (.inl (.inl (s1 _ _ htb))), ?_⟩
    rw [lts]
    refine ⟨_, rfl, by omega, by omega, for_range (lo := 0) (n := bs.length) (fun i σ H' => ∃ v2 v3, σ = [some (.ref t), some (.ref D), v2, v3] ∧ Same H H' ∧ H' D = some (.lst ((labN bs i N).map V.int)))
      ⟨none, none, rfl, s1, hD1⟩ (fun i σ H3 hi hP => ?_) (fun σ H' hP => ?_)⟩
    · obtain ⟨v2, v3, rfl, s3, hD3⟩ := hP
      have ei : (0 : Int) + (i : Int) = ((i : Nat) : Int) := Int.zero_add _
      have hti : i < ts.length := by omega
      obtain ⟨b, eb, a, ea, ha⟩ := tt_get pr (List.getElem?_eq_getElem hti)
      have mb := List.mem_of_getElem? eb
      have eti : atI ts ((0 : Int) + (i : Int)) = some (.ref a) := by rw [ei]; exact atI_nat (by rw [List.getElem?_eq_getElem hti, ea])
      refine ⟨_, rfl, t, _, 2, .ref tb, rfl, rfl, .inl (.inl (s3 _ _ ht)), atI_nat (j := 2) rfl, _, rfl, tb, _, _, _, rfl, rfl, .inl (.inl (s3 _ _ htb)), eti, a, rfl, ⟨_, .inl (.inl (s3 _ _ ha))⟩, for_it walk_tup (fun j σ H' => ∃ v3, σ = [some (.ref t), some (.ref D), some (.int (0 + (i : Int))), v3] ∧ Same H H' ∧ H' D = some (.lst (((b.take j).foldl (fun ms p => ms.set p.toNat (i : Int)) (labN bs i N)).map V.int)))
        ⟨v3, rfl, s3, hD3⟩ (fun j σ H' _ ⟨_, _, s', _⟩ => .inl (.inl (s' _ _ ha))) (fun j y σ H6 H7 hj hP hy => ?_) (fun σ H' hP => ?_)⟩
      · obtain ⟨v3, rfl, s5, hD5⟩ := hP
        obtain ⟨e0, hy⟩ := hy
        subst e0
        rw [List.length_map] at hj
        have ez : (b.map V.int)[j]? = some (.int (co b j)) := by rw [List.getElem?_map, co_get hj]; rfl
        obtain rfl : V.int (co b j) = y := Option.some.inj (ez.symm.trans hy)
        obtain ⟨c0, c1⟩ := dg_pt dg mb (co_mem hj)
        have ll : ((b.take j).foldl (fun ms p => ms.set p.toNat (i : Int)) (labN bs i N)).length = N := by
          rw [fold_len]
          unfold labN
          rw [labFrom_len, List.length_replicate]
        refine ⟨_, rfl, _, rfl, _, rfl, D, _, _, (co b j).toNat, rfl, rfl, hD5, (by obtain ⟨u, hu⟩ := Int.eq_ofNat_of_zero_le c0; rw [hu]; exact ixN_nat (by rw [List.length_map, ll]; omega)), ?_⟩
        refine ⟨_, rfl, Same.mut s5 nD0, ?_⟩
        rw [upd_same, ei, map_set, fold_take hj]
      · obtain ⟨v3, rfl, s5, hD5⟩ := hP
        rw [List.length_map, List.take_length] at hD5
        refine ⟨_, _, rfl, s5, ?_⟩
        rw [hD5]
        unfold labN
        rw [List.take_succ, eb, show (some b).toList = [b] from rfl, labFrom_snoc, List.length_take, Nat.min_eq_left (by omega), Nat.zero_add]
    · obtain ⟨v2, v3, rfl, s3, hD3⟩ := hP
      refine ⟨_, rfl, q D H' s3 nD0 ?_⟩
      rw [hD3, eN]
      unfold labN labL
      rw [List.take_length]
      rfl
end

theorem paired_ix {α β : Type} {F : α → β → Prop} : ∀ {l : List α} {m : List β} {i : Nat} {x : α}, Paired F l m → l[i]? = some x → ∃ y, m[i]? = some y ∧ F x y
  | _, _, 0, _, .cons h _, e => by
    obtain rfl := Option.some.inj e
    exact ⟨_, rfl, h⟩
  | _, _, i + 1, _, .cons _ t, e => paired_ix (i := i) t e

/-! ### _law_glued, _law_kinds -/
/-- a pair of points -/
def LnkW (H : Hp) (v : V) (e : Nat × Nat) : Prop := ∃ t, v = .ref t ∧ H t = some (.tup [.int (e.1 : Int), .int (e.2 : Int)])
theorem LnkW.same {H H' : Hp} {v : V} {e : Nat × Nat} (s : Same H H') (h : LnkW H v e) : LnkW H' v e := by
  obtain ⟨t, a, b⟩ := h
  exact ⟨t, a, s _ _ b⟩
def ujP (l : List Int) (es : List (Nat × Nat)) : List Int := es.foldl (fun l e => uj l e.1 e.2) l
theorem ujP_len : ∀ (es : List (Nat × Nat)) (l : List Int), (ujP l es).length = l.length
  | [], _ => rfl
  | e :: es, l => (ujP_len es (uj l e.1 e.2)).trans (uj_len _ _ _)
theorem ujP_app (l : List Int) (a b : List (Nat × Nat)) : ujP l (a ++ b) = ujP (ujP l a) b := List.foldl_append
theorem ks_ujP {N : Nat} : ∀ (es : List (Nat × Nat)) (l : List Int) (E : Nat → Nat → Prop), (∀ e ∈ es, e.1 < N ∧ e.2 < N) → Ks N l E → Ks N (ujP l es) fun i j => E i j ∨ (i, j) ∈ es
  | [], l, E, _, k => k.congr (fun i j h => by
      rcases h with h | h
      · exact k.bd i j h
      · exact nomatch h) (fun i j h => .ed (.inl h)) (fun i j h => by
      rcases h with h | h
      · exact .ed h
      · exact nomatch h)
  | e :: es, l, E, hb, k => by
    have b0 := hb e (.head _)
    have k1 := ks_ujP es (uj l e.1 e.2) _ (fun e' h => hb e' (.tail _ h)) (k.uj b0.1 b0.2)
    refine k1.congr (fun i j h => ?_) (fun i j h => ?_) (fun i j h => ?_)
    · rcases h with h | h
      · exact k.bd i j h
      · exact hb _ h
    · rcases h with (h | ⟨rfl, rfl⟩) | h
      · exact .ed (.inl h)
      · exact .ed (.inr (.head _))
      · exact .ed (.inr (.tail _ h))
    · rcases h with h | h
      · exact .ed (.inl (.inl h))
      · rcases List.mem_cons.mp h with h | h
        · exact .ed (.inl (.inr ⟨congrArg Prod.fst h, congrArg Prod.snd h⟩))
        · exact .ed (.inr h)
section
variable {P : Program} {w : World} {K : PySem.W.Frag} {mg : Str → Option Value} {base : Heap}
def spGlued (K : PySem.W.Frag) : Sp := fun vs H Q _ => ∃ (a p : Addr) (l : List Int) (ts : List V) (es : List (Nat × Nat)), vs = [.ref a, .ref p] ∧ SqL K H a (l.map V.int) ∧ H p = some (.lst ts) ∧ Paired (LnkW H) ts es ∧ (∀ e ∈ es, e.1 < l.length ∧ e.2 < l.length) ∧ l.length ≤ 1000 ∧
  ∀ (D : Addr) (H' : Hp), Same H H' → SqL K H' D ((ujP l es).map V.int) → Q (.ref D) H'
theorem ok_law_glued {f : Addr} {fd : FuncData} (F : Fun K "_law_glued" "_law_glued" s_law_glued f fd) : FnOk P w K mg base CX0 1 f fd ["marks", "pairs"] (spGlued K) := by
  refine F.ok sc_law_glued (fun vs H Q E h => ?_) (fun cdv A outer s H vs Q E hr h => ?_)
  · obtain ⟨a, p, l, ts, es, rfl, _⟩ := h
    rfl
  · obtain ⟨a, p, l, ts, es, rfl, ha, hp, pr, hb, hl, q⟩ := h
    refine ⟨_, (pss_cons (ps_for PassesOwn.never rfl (pi_list (pv 1)) (pg_tup rfl (pgs_cons (pg_name (i := 2) sc_law_glued.nd rfl (.inr rfl)) (pgs_cons (pg_name (i := 3) sc_law_glued.nd rfl (.inl rfl)) pgs_nil))) (pss_cons (ps_set (i := 4) sc_law_glued.nd rfl (.inr rfl) (pe_ix ix_list (pv 0) (pv 3) (fun _ _ => rfl)))
  (pss_one (ps_set (i := 0) sc_law_glued.nd rfl (.inr rfl) (pe_lc (own := [("mark", 5)]) rfl sc_law_glued.nd (pi_list (pv 0)) (blkOk_by (N := ["marks", "pairs", "one", "other", "old", "mark"]) (sc := defScope s_law_glued) (by first | decide +kernel | rfl)) (fun _ _ _ _ _ => (pg_name (i := 5) sc_law_glued.nd rfl (.inl rfl))) (fun _ _ _ _ _ => pts_nil) (fun _ _ _ _ _ => (pe_ifExp (pt_cmpR op_eq (pv 5) (pv 4) (nomark _)) (pe_ix (ix_listK (K := K) rfl) (pv 0) (pv 2) (fun _ _ => rfl)) (pv 5))))))))
  (pss_one (ps_ret (pv 0)))), ?_⟩
    have szl : 20000 ≤ sizeLine := by decide
    refine ⟨_, rfl, p, rfl, ⟨_, .inl (.inl hp)⟩, for_list (K := K) (xs := ts) (fun i σ H' => ∃ (D : Addr) (v2 v3 v4 : Option V), σ = [some (.ref D), some (.ref p), v2, v3, v4, none] ∧ Same H H' ∧ SqL K H' D ((ujP l (es.take i)).map V.int))
      ⟨a, _, _, _, rfl, Same.refl _, ha⟩ (fun i σ H' _ ⟨_, _, _, _, _, s', _⟩ => .inl (.inl (s' _ _ hp))) (fun i z σ H1 hz hP => ?_) (fun σ H' hP => ?_)⟩
    · obtain ⟨D0, v2, v3, v4, rfl, s1, hD0⟩ := hP
      obtain ⟨e, ee, ht⟩ := paired_ix pr hz
      obtain ⟨t, rfl, ht⟩ := ht
      have be := hb e (List.mem_of_getElem? ee)
      have ht1 := s1 _ _ ht
      generalize el : ujP l (es.take i) = L at hD0
      have lL : L.length = l.length := by rw [← el]; exact ujP_len _ _
      refine ⟨t, _, rfl, .inl (.inl ht1), rfl, _, _, rfl, _, _, rfl, rfl, ?_⟩
      refine ⟨_, rfl, _, rfl, D0, _, _, _, rfl, rfl, hD0, at_co (by omega), ?_⟩
      refine ⟨_, rfl, D0, rfl, ⟨_, hD0⟩, fun D nD => ?_⟩
      have hk : ∀ {H2 : Hp}, SameBut D H1 H2 → Same H1 H2 := fun {H2} sb b o e => sb _ _ (ne_of_none e nD) e
      have en : ujP l (es.take (i + 1)) = L.map fun c => if c = co L e.2 then co L e.1 else c := by
        rw [List.take_succ, ee]
        show ujP l (es.take i ++ [e]) = _
        rw [ujP_app, el]
        rfl
      refine lc_list (K := K) (xs := L.map V.int) (fun i H2 => SameBut D H1 H2 ∧ H2 D = some (.lst (((L.take i).map fun c => if c = co L e.2 then co L e.1 else c).map V.int))) ⟨SameBut.upd, upd_same⟩ (fun i H2 _ hP => sqL_same (hk hP.1) hD0) (fun j z H2 hz hP => ?_) (fun H2 hP => ?_)
      · obtain ⟨sb, hD⟩ := hP
        have li : j < L.length := by have := (List.getElem?_eq_some_iff.mp hz).1; rwa [List.length_map] at this
        have ez : (L.map V.int)[j]? = some (.int (co L j)) := by rw [List.getElem?_map, co_get li]; rfl
        obtain rfl : V.int (co L j) = z := Option.some.inj (ez.symm.trans hz)
        refine ⟨rfl, ?_⟩
        have fin : ∀ c : Int, (if co L j = co L e.2 then co L e.1 else co L j) = c → ∃ acc, H2 D = some (.lst acc) ∧ acc.length < sizeLine ∧ SameBut D H1 (upd H2 D (.lst (acc ++ [V.int c]))) ∧ upd H2 D (.lst (acc ++ [V.int c])) D = some (.lst (((L.take (j + 1)).map fun c => if c = co L e.2 then co L e.1 else c).map V.int)) := fun c ec =>
          ⟨_, hD, by rw [List.length_map, List.length_map, List.length_take]; omega, sb.trans SameBut.upd, by rw [upd_same, take_snoc li, List.map_append, List.map_append, ← ec]; rfl⟩
        refine ⟨_, rfl, _, rfl, rfl, _, rfl, ite2 (fun e1 => ⟨_, rfl, _, rfl, D0, _, _, _, rfl, rfl, sqL_same (hk sb) hD0, at_co (by omega), fin _ (if_pos (V.int.inj (of_decide_eq_true e1)))⟩) (fun e1 => ⟨_, rfl, fin _ (if_neg fun z => e1 (decide_eq_true (congrArg V.int z)))⟩)⟩
      · obtain ⟨sb, hD⟩ := hP
        rw [List.length_map, List.take_length] at hD
        exact ⟨D, _, _, _, rfl, Same.trans s1 (hk sb), by rw [en]; exact .inl (.inl hD)⟩
    · obtain ⟨D0, v2, v3, v4, rfl, s1, hD0⟩ := hP
      rw [pr.length, List.take_length] at hD0
      exact ⟨_, rfl, q D0 H' s1 hD0⟩
end

theorem inV_int {p : Int} : ∀ l : List Int, inV (.int p) (l.map V.int) = decide (p ∈ l)
  | [] => rfl
  | x :: l => by
    show (eqV (.int x) (.int p) || inV (.int p) (l.map V.int)) = _
    rw [inV_int l]
    have e : eqV (.int x) (.int p) = decide (x = p) := by
      by_cases c : x = p <;> simp [eqV, c]
    rw [e]
    by_cases c : x = p
    · rw [decide_eq_true c, decide_eq_true (List.mem_cons.mpr (.inl c.symm))]
      rfl
    · rw [decide_eq_false c, Bool.false_or]
      refine decide_eq_decide.mpr ⟨fun z => List.mem_cons_of_mem _ z, fun z => (List.mem_cons.mp z).resolve_left fun z => c z.symm⟩
theorem flat_int : ∀ l : List Int, (l.map V.int).all flatV = true
  | [] => rfl
  | _ :: l => by
    rw [List.map_cons, List.all_cons, flat_int l]
    rfl
section
variable {P : Program} {w : World} {K : PySem.W.Frag} {mg : Str → Option Value} {base : Heap}
/-! ### _law_kinds -/
def spKindsN (K : PySem.W.Frag) : Sp := fun vs H Q _ => ∃ (a : Addr) (l : List Int), vs = [.ref a] ∧ SqL K H a (l.map V.int) ∧ l.length ≤ 1000 ∧ ∀ H', Same H H' → Q (.int (cnt l : Nat)) H'
theorem ok_law_kinds {f : Addr} {fd : FuncData} (F : Fun K "_law_kinds" "_law_kinds" s_law_kinds f fd) (z_len : mg "len" = none) : FnOk P w K mg base CX0 1 f fd ["marks"] (spKindsN K) := by
  refine F.ok sc_law_kinds (fun vs H Q E h => ?_) (fun cdv A outer s H vs Q E hr h => ?_)
  · obtain ⟨a, l, rfl, _⟩ := h
    rfl
  · obtain ⟨a, l, rfl, ha, hl, q⟩ := h
    refine ⟨_, (pss_cons (ps_set (i := 1) sc_law_kinds.nd rfl (.inl rfl) (pe_lst pa_nil))
  (pss_cons (ps_for PassesOwn.never rfl (pi_list (pv 0)) (pg_name (i := 2) sc_law_kinds.nd rfl (.inl rfl)) (pss_one (ps_if (pt_cmpR op_notIn_seq (pv 2) (pv 1) (by with_unfolding_all rfl)) (pss_one (ps_expr (pe_bm PySem.F.plainAttrs_list PySem.F.slot_list_append PySem.F.type_list_append mt_append (pv 1) (pa_cons (pv 2) pa_nil)))) pss_nil)))
  (pss_one (ps_ret (pe_callB call_len_seq (by rfl) z_len boot_len (pa_cons (pv 1) pa_nil)))))), ?_⟩
    have szl : 20000 ≤ sizeLine := by decide
    refine ⟨(by show 0 ≤ sizeLine; decide), fun D nD => ?_⟩
    refine ⟨_, rfl, a, rfl, ⟨_, sqL_same (same_upd nD) ha⟩, for_list (xs := l.map V.int) (fun i σ H' => ∃ v2, σ = [some (.ref a), some (.ref D), v2] ∧ Same H H' ∧ H' D = some (.lst ((seenL [] (l.take i)).map V.int)))
      ⟨none, rfl, same_upd nD, upd_same⟩ (fun i σ H' _ ⟨_, _, s', _⟩ => sqL_same s' ha) (fun i y σ H' hy hP => ?_) (fun σ H' hP => ?_)⟩
    · obtain ⟨v2, rfl, s2, hD⟩ := hP
      have hi : i < l.length := by have := (List.getElem?_eq_some_iff.mp hy).1; rwa [List.length_map] at this
      have ey : (l.map V.int)[i]? = some (.int (co l i)) := by rw [List.getElem?_map, co_get hi]; rfl
      obtain rfl : V.int (co l i) = y := Option.some.inj (ey.symm.trans hy)
      refine ⟨_, rfl, _, rfl, D, _, rfl, .inl (.inl (.inl hD)), rfl, flat_int _, _, rfl, ?_⟩
      have ls := seenL_len (l.take i) []
      rw [List.length_take] at ls
      have ls2 : (seenL [] (l.take i)).length ≤ 1000 := by
        have : ([] : List Int).length = 0 := rfl
        omega
      by_cases c : co l i ∈ seenL [] (l.take i)
      · refine if_neg_of (by show ¬ (!inV _ _) = true; rw [inV_int, decide_eq_true c]; exact Bool.false_ne_true) ⟨_, rfl, s2, ?_⟩
        rw [take_snoc hi, seenL_snoc, if_pos c]
        exact hD
      · refine if_pos_of (by show (!inV _ _) = true; rw [inV_int, decide_eq_false c]; rfl) ?_
        refine ⟨_, rfl, .inl ⟨rfl, _, .inl (.inl hD)⟩, _, rfl, D, _, _, rfl, rfl, hD, by rw [List.length_map]; omega, ?_⟩
        refine ⟨_, rfl, Same.mut s2 nD, ?_⟩
        rw [upd_same, take_snoc hi, seenL_snoc, if_neg c, List.map_append]
        rfl
    · obtain ⟨v2, rfl, s2, hD⟩ := hP
      rw [List.length_map, List.take_length] at hD
      refine ⟨_, rfl, D, _, rfl, .inl (.inl (.inl hD)), ?_⟩
      rw [List.length_map]
      exact q _ s2
end

/-! ### piece_marks, piece_count of a tuple of groups -/
section
variable {P : Program} {w : World} {K : PySem.W.Frag} {mg : Str → Option Value} {base : Heap}
def spPieceMarksT (K : PySem.W.Frag) : Sp := fun vs H Q _ => ∃ (N : Nat) (a : Addr) (gs : List V) (bs : List (List Int)), vs = [.int (N : Int), .ref a] ∧ SqT K H a gs ∧ Paired (Grp K H) gs bs ∧ GBd N bs ∧ N ≤ 1000 ∧
  ∀ D H', Same H H' → H D = none → H' D = some (.lst ((pcs N bs).map V.int)) → Q (.ref D) H'
theorem ok_piece_marksT {f a_root_ : Addr} {fd fd_root_ : FuncData} (F : Fun K "piece_marks" "piece_marks" s_piece_marks f fd) (z_list : mg "list" = none) (z_range : mg "range" = none)
    (G_root_ : FnOk P w K mg base CX0 1 a_root_ fd_root_ ["parents", "point"] (spRoot K)) (g_root_ : mg "_root" = some (.ref a_root_)) (k_root_ : PySem.W.keepIn K (.ref a_root_) = true) (b_root_ : Binds K fd_root_ ["parents", "point"] []) :
    FnOk P w K mg base CX0 2 f fd ["size", "groups"] (spPieceMarksT K) := by
  refine F.ok sc_piece_marks (fun vs H Q E h => ?_) (fun cdv A outer s H vs Q E hr h => ?_)
  · obtain ⟨N, a, gs, bs, rfl, _⟩ := h
    rfl
  · obtain ⟨N, a, gs, bs, rfl, ha, pr, gb, hN, q⟩ := h
    refine ⟨_, (pss_cons (ps_set (i := 2) sc_piece_marks.nd rfl (.inr rfl) (pe_listRg rfl rfl z_list (prg_1 rfl z_range (pv 0))))
  (pss_cons (ps_for PassesOwn.never rfl (pi_tup (pv 1)) (pg_name (i := 3) sc_piece_marks.nd rfl (.inl rfl)) (pss_one (ps_for PassesOwn.never rfl (pi_lt (pe_slice sl_seqA (pv 3) (po_some pe_int) po_none)) (pg_name (i := 4) sc_piece_marks.nd rfl (.inl rfl)) (pss_cons (ps_set (i := 5) sc_piece_marks.nd rfl (.inl rfl) (pe_call G_root_ (hr.mono (by decide)) rfl g_root_ k_root_ b_root_ .nil pass0 (pa_cons (pv 2) (pa_cons (pe_ix ix_seqA (pv 3) pe_int (fun _ _ => rfl)) pa_nil))))
  (pss_one (ps_asg (pv 5) (pg_sub (pv 2) (pe_call G_root_ (hr.mono (by decide)) rfl g_root_ k_root_ b_root_ .nil pass0 (pa_cons (pv 2) (pa_cons (pv 4) pa_nil))) set_list)))))))
  (pss_one (ps_ret (pe_lc (own := [("point", 4)]) rfl sc_piece_marks.nd (pi_range1 rfl z_range (pa_cons (pv 0) pa_nil)) (blkOk_by (N := ["size", "groups", "parents", "group", "point", "low"]) (sc := defScope s_piece_marks) (by first | decide +kernel | rfl)) (fun _ _ _ _ _ => (pg_name (i := 4) sc_piece_marks.nd rfl (.inl rfl))) (fun _ _ _ _ _ => pts_nil) (fun _ _ _ _ _ => (pe_call G_root_ (hr.mono (by decide)) rfl g_root_ k_root_ b_root_ .nil pass0 (pa_cons (pv 2) (pa_cons (pv 4) pa_nil))))))))), ?_⟩
    have szl : 20000 ≤ sizeLine := by decide
    refine ⟨_, rfl, (N : Int), rfl, RgOk.of_le (by omega) (by omega) (by omega) (by omega), fun D nD => ?_⟩
    have s1 := same_upd (o := .lst (rgV 0 (N : Int))) nD
    have hD1 : upd H D (.lst (rgV 0 (N : Int))) D = some (.lst ((ixs N).map V.int)) := by rw [upd_same, rgV_ixs (by omega)]; rfl
    revert s1 hD1
    generalize upd H D (.lst (rgV 0 (N : Int))) = H1
    intro s1 hD1
    refine ⟨_, rfl, a, rfl, ⟨_, sqT_same s1 ha⟩, for_it walk_tup (fun i σ H' => ∃ v3 v4 v5 par, σ = [some (.int (N : Int)), some (.ref a), some (.ref D), v3, v4, v5] ∧ Same H H' ∧ H' D = some (.lst (par.map V.int)) ∧ Frst N par (ujs (ixs N) (bs.take i)))
      ⟨none, none, none, ixs N, rfl, s1, hD1, frst_start N⟩ (fun i σ H' _ ⟨_, _, _, _, _, s', _⟩ => sqT_same s' ha) (fun i x σ H2o H2 _ hP hy => ?_) (fun σ H2 hP => ?_)⟩
    · obtain ⟨v3, v4, v5, par, rfl, s2, hD2, fr⟩ := hP
      obtain ⟨e2, hx⟩ := hy
      subst e2
      obtain ⟨b, eb, hg⟩ := paired_get pr hx
      obtain ⟨g, rfl, hg⟩ := hg.same s2
      have mb := List.mem_of_getElem? eb
      obtain ⟨ne, hb⟩ := gb b mb
      have hi : i < bs.length := (List.getElem?_eq_some_iff.mp eb).1
      obtain ⟨h0, tl, rfl⟩ : ∃ h0 tl, b = h0 :: tl := by
        cases b with
        | nil => exact absurd rfl ne
        | cons h0 tl => exact ⟨h0, tl, rfl⟩
      have hgH : SqA K H2 g ((h0 :: tl).map V.int) := ‹SqA K H2 g _›
      refine ⟨_, rfl, _, rfl, g, _, rfl, hgH, (by rw [List.length_map]; exact cut1 tl), fun p H3 s3 np hp => ?_⟩
      rw [cutI_from (by omega) (by rw [List.length_cons]; omega), show (h0 :: tl).drop (1 : Int).toNat = tl from rfl] at hp
      have hD3 := s3 _ _ hD2
      have npD : p ≠ D := fun z => by rw [z, hD2] at np; cases np
      have s03 := Same.trans s2 s3
      have hh := hb h0 List.mem_cons_self
      refine ⟨_, _, rfl, for_seq hp (fun i2 σ H' => ∃ v4 v5 par, σ = [some (.int (N : Int)), some (.ref a), some (.ref D), some (.ref g), v4, v5] ∧ SameBut D H3 H' ∧ H' D = some (.lst (par.map V.int)) ∧ Frst N par ((tl.take i2).foldl (fun l p => uj l h0.toNat p.toNat) (ujs (ixs N) (bs.take i))))
        ⟨v4, v5, par, rfl, SameBut.refl D H3, hD3, fr⟩ (fun i2 σ' H' ⟨_, _, _, _, sb, _⟩ => ⟨fun h => sqL_butN npD sb h, fun h => sqT_but sb npD h⟩) (fun i2 y σ H4 hy hP => ?_) (fun σ H4 hP => ?_)⟩
      · obtain ⟨v4, v5, par, rfl, sb, hD4, fr⟩ := hP
        have hi2 : i2 < tl.length := by have := (List.getElem?_eq_some_iff.mp hy).1; rwa [List.length_map] at this
        have ez : (tl.map V.int)[i2]? = some (.int (co tl i2)) := by rw [List.getElem?_map, co_get hi2]; rfl
        obtain rfl : V.int (co tl i2) = y := Option.some.inj (ez.symm.trans hy)
        have ht := hb (co tl i2) (List.mem_cons_of_mem _ (co_mem hi2))
        have s04 := same_butD s03 sb nD
        have hg4 := hg.same s04
        obtain ⟨g', eg, hg4⟩ := hg4
        obtain rfl := V.ref.inj eg
        have eh : h0 = ((h0.toNat : Nat) : Int) := by omega
        have et : co tl i2 = (((co tl i2).toNat : Nat) : Int) := by omega
        refine ⟨_, rfl, _, rfl, _, _, _, _, rfl, rfl, hg4, atI_nat (j := 0) rfl, D, par, _, N, h0.toNat, by rw [← eh]; rfl, .inl (.inl hD4), fr, by omega, ?_⟩
        generalize er : (tl.take i2).foldl (fun l p => uj l h0.toNat p.toNat) (ujs (ixs N) (bs.take i)) = r at fr
        obtain ⟨lo, elo, llo, _⟩ := fr.root (x := h0.toNat) (by omega)
        obtain ⟨hi, ehi, lhi, _⟩ := fr.root (x := (co tl i2).toNat) (by omega)
        have lp := fr.1
        refine ⟨_, rfl, _, rfl, _, rfl, _, rfl, D, par, r, N, (co tl i2).toNat, by rw [← et]; rfl, .inl (.inl hD4), fr, by omega, D, _, _, hi, rfl, by rw [ehi], hD4, ixN_nat (by rw [List.length_map]; omega), ?_⟩
        have fj := fr.join (x := h0.toNat) (y := (co tl i2).toNat) (by omega) (by omega)
        rw [ehi, show ((hi : Int)).toNat = hi from rfl] at fj
        refine ⟨_, _, _, rfl, sb.trans SameBut.upd, by rw [upd_same, map_set], ?_⟩
        rw [List.take_succ, co_get hi2, List.foldl_append, er]
        exact fj
      · obtain ⟨v4, v5, par, rfl, sb, hD4, fr⟩ := hP
        rw [List.length_map, List.take_length] at fr
        refine ⟨_, v4, v5, par, rfl, same_butD s03 sb nD, hD4, ?_⟩
        rw [List.take_succ, eb]
        unfold ujs
        rw [List.foldl_append]
        exact fr
    · obtain ⟨v3, v4, v5, par, rfl, s2, hD2, fr⟩ := hP
      have e : ujs (ixs N) (bs.take gs.length) = pcs N bs := by
        rw [pr.length, List.take_length]
        rfl
      rw [e] at fr
      refine ⟨_, rfl, (N : Int), rfl, by omega, by omega, fun Z nZ => ?_⟩
      have lp := fr.2.1
      have hk : ∀ {H5 : Hp}, SameBut Z H2 H5 → Same H2 H5 := fun sb b o e => sb _ _ (ne_of_none e nZ) e
      rw [show (N : Int).toNat = N from rfl]
      refine lc_range (lo := 0) (n := N) (fun i H5 => SameBut Z H2 H5 ∧ H5 Z = some (.lst (((pcs N bs).take i).map V.int))) ⟨SameBut.upd, upd_same⟩ (fun i H5 hi hP => ?_) (fun H5 hP => ?_)
      · obtain ⟨sb, hZ⟩ := hP
        refine ⟨rfl, ?_⟩
        refine ⟨_, rfl, _, rfl, D, par, _, N, i, by rw [Int.zero_add]; rfl, .inl (.inl (hk sb _ _ hD2)), fr, hi, _, hZ, by rw [List.length_map, List.length_take]; omega, sb.trans SameBut.upd, ?_⟩
        rw [upd_same, take_snoc (by omega), List.map_append]
        rfl
      · obtain ⟨sb, hZ⟩ := hP
        rw [List.take_of_length_le (Nat.le_of_eq lp)] at hZ
        exact q Z H5 (Same.trans s2 (hk sb)) (none_back s2 nZ) hZ
def spPieceCountT (K : PySem.W.Frag) : Sp := fun vs H Q _ => ∃ (N : Nat) (a : Addr) (gs : List V) (bs : List (List Int)), vs = [.int (N : Int), .ref a] ∧ SqT K H a gs ∧ Paired (Grp K H) gs bs ∧ GBd N bs ∧ N < 64 ∧ ∀ H', Same H H' → Q (.int (cnt (pcs N bs) : Nat)) H'
theorem ok_piece_countT {f a_piece_marks : Addr} {fd fd_piece_marks : FuncData} (F : Fun K "piece_count" "piece_count" s_piece_count f fd) (z_len : mg "len" = none) (z_set : mg "set" = none)
    (G_piece_marks : FnOk P w K mg base CX0 2 a_piece_marks fd_piece_marks ["size", "groups"] (spPieceMarksT K)) (g_piece_marks : mg "piece_marks" = some (.ref a_piece_marks)) (k_piece_marks : PySem.W.keepIn K (.ref a_piece_marks) = true) (b_piece_marks : Binds K fd_piece_marks ["size", "groups"] []) :
    FnOk P w K mg base CX0 3 f fd ["size", "groups"] (spPieceCountT K) := by
  refine F.ok sc_piece_count (fun vs H Q E h => ?_) (fun cdv A outer s H vs Q E hr h => ?_)
  · obtain ⟨N, a, gs, bs, rfl, _⟩ := h
    rfl
  · obtain ⟨N, a, gs, bs, rfl, ha, pg, gb, hN, q⟩ := h
    refine ⟨_, (pss_one (ps_ret (SD.pe_lenSetD rfl rfl z_len rfl z_set (pe_call G_piece_marks (hr.mono (by decide)) rfl g_piece_marks k_piece_marks b_piece_marks .nil pass0 (pa_cons (pv 0) (pa_cons (pv 1) pa_nil)))))), ?_⟩
    have lM : (pcs N bs).length = N := (ks_pcs gb).len
    refine ⟨_, rfl, _, rfl, N, a, gs, bs, rfl, ha, pg, gb, by omega, fun D H1 s1 nD hD => ?_⟩
    refine ⟨D, _, rfl, .inl (.inl hD), by omega, fun L nd mem => ?_⟩
    rw [cnt_is nd mem]
    exact q H1 s1
end

theorem call_len_seqK {X : Cx} {K : PySem.W.Frag} (hK : X.K = K) : CallR X (.builtin "len") (fun xs H Q => ∃ p ys, xs = [.ref p] ∧ (SqL K H p ys ∨ SqT K H p ys) ∧ Q (.int (ys.length : Nat)) H) := by
  subst hK
  exact call_len_seq

theorem pg_tupK {X : Cx} {K : PySem.W.Frag} (hK : X.K = K) {es : List Expr} {k : Nat} {t : TGs} {n : Nat} {pos : Pos} (hc : X.calm = true) (h : PGs X es t)
    (hn : (assignEach es X.env).length = n := by rfl) (hst : (assignEach es X.env).findIdx? (·.1) = none := by rfl) : PG X (.Tuple es k pos) (gTup K n t) := by
  subst hK
  exact pg_tup hc h hn hst
theorem sl_tupK {X : Cx} {K : PySem.W.Frag} (hK : X.K = K) : SlR X (rSlT K) := by
  subst hK
  exact sl_tup

/-! ### joined_pieces, joined, loop_powers -/
def jpc (N : Nat) (bs cs : List (List Int)) : Nat := cnt (pcs N (bs ++ cs))
theorem cut2 {a b c : V} : cutV [a, b, c] none (some 2) = [a, b] := rfl
def dP2 (a b : Int) : PyData := .tuple [.int a, .int b]
theorem dP2_shaped (a b : Int) : SeqAt.shaped (dP2 a b) = true := by
  show (PyData.canLay0 (dP2 a b) && decide (PyData.depth (dP2 a b) ≤ 64)) = true
  unfold dP2
  simp [PyData.canLay0, PyData.canLayAll0, PyData.depth, PyData.depthAll]
theorem eqv_P2 (a b c d : Int) : PyData.eqv (dP2 a b) (dP2 c d) = decide (a = c ∧ b = d) := by
  unfold dP2
  simp only [PyData.eqv, PyData.eqvAll]
  by_cases h1 : a = c
  · by_cases h2 : b = d
    · subst h1 h2
      simp
    · simp [h2]
  · simp [h1]
/-- the worth of a loop, so many times -/
def pwN (p d : Int) (k : Nat) : Int := if p = 0 then d ^ k else d ^ k % p
theorem pw_of {p d u v : Int} {k : Nat} (hp : p = 0 ∨ p ∈ primes) (h : IsNum p (d ^ k) (1 ^ k) u v) : u = pwN p d k ∧ v = 1 := by
  unfold pwN
  rw [Int.one_pow] at h
  rcases h with ⟨h0, e1, l, u1, m⟩ | ⟨h0, e⟩
  · rw [if_neg (by omega)]
    refine ⟨?_, e1⟩
    rw [Int.mul_one] at m
    have hh : (u % p) = (d ^ k % p) := Int.emod_eq_emod_iff_emod_sub_eq_zero.mpr m
    rw [← hh, Int.emod_eq_of_lt l u1]
  · have p0 : p = 0 := by
      rcases hp with h | h
      · exact h
      · have := prime_pos h
        omega
    rw [if_pos p0]
    have hl : low (d ^ k) 1 = (d ^ k, 1) := (low_self (by decide)).mpr (by unfold gI; simp)
    rw [hl] at e
    exact Prod.mk.inj e
theorem isN_d {p d : Int} (h : isW p d = true) : isN p d 1 = true := by
  unfold isN
  by_cases c : p = 0
  · rw [if_pos c]
    rw [if_pos (by decide)]
    exact decide_eq_true (by unfold gI; simp)
  · rw [if_neg c]
    obtain ⟨_, l, u⟩ := isW_prime h c
    rw [if_pos rfl, if_pos l]
    exact decide_eq_true u
theorem grp_of {K : PySem.W.Frag} {H : Hp} : ∀ {ts : List V} {bs : List (List Int)}, Paired (TP H) ts bs → Paired (Grp K H) ts bs
  | _, _, .nil => .nil
  | _, _, .cons ⟨a, e, h⟩ t => .cons ⟨a, e, .inr (.inl (.inl h))⟩ (grp_of t)
theorem dg_gbd {n m : Int} {bs : List (List Int)} (h : IsDg n m bs) : GBd (n + m).toNat bs := fun b hb => ⟨h.ne b hb, fun p hp => by
  have := dg_pt h hb hp
  have := siz_iff.mp h.sz
  omega⟩
section
variable {P : Program} {w : World} {K : PySem.W.Frag} {mg : Str → Option Value} {base : Heap}
def spJp : Sp := fun vs H Q _ => ∃ (v1 v2 : V) (n m : Int) (bs cs : List (List Int)), vs = [v1, v2] ∧ DGv H v1 n m bs ∧ DGv H v2 n m cs ∧ IsDg n m bs ∧ IsDg n m cs ∧ ∀ H', Same H H' → Q (.int (jpc (n + m).toNat bs cs : Nat)) H'
theorem ok_joined_pieces {f a_piece_count : Addr} {fd fd_piece_count : FuncData} (F : Fun K "joined_pieces" "joined_pieces" s_joined_pieces f fd)
    (G_piece_count : FnOk P w K mg base CX0 3 a_piece_count fd_piece_count ["size", "groups"] (spPieceCountT K)) (g_piece_count : mg "piece_count" = some (.ref a_piece_count)) (k_piece_count : PySem.W.keepIn K (.ref a_piece_count) = true) (b_piece_count : Binds K fd_piece_count ["size", "groups"] []) :
    FnOk P w K mg base CX0 4 f fd ["one", "other"] spJp := by
  refine F.ok sc_joined_pieces (fun vs H Q E h => ?_) (fun cdv A outer s H vs Q E hr h => ?_)
  · obtain ⟨v1, v2, n, m, bs, cs, rfl, _⟩ := h
    rfl
  · obtain ⟨v1, v2, n, m, bs, cs, rfl, d1, d2, g1, g2, q⟩ := h
    refine ⟨_, (pss_one (ps_ret (pe_call G_piece_count (hr.mono (by decide)) rfl g_piece_count k_piece_count b_piece_count .nil pass0 (pa_cons (pe_op op_add (pe_ix ix_tup (pv 0) pe_int (fun _ _ => rfl)) (pe_ix ix_tup (pv 0) pe_int (fun _ _ => rfl))) (pa_cons (pe_op op_catB (pe_ix ix_tup (pv 0) pe_int (fun _ _ => rfl)) (pe_ix ix_tup (pv 1) pe_int (fun _ _ => rfl))) pa_nil))))), ?_⟩
    have szl : 20000 ≤ sizeLine := by decide
    obtain ⟨t1, vb1, rfl, ht1, tb1, ts1, rfl, htb1, pr1⟩ := id d1
    obtain ⟨t2, vb2, rfl, ht2, tb2, ts2, rfl, htb2, pr2⟩ := id d2
    have zs := siz_iff.mp g1.sz
    have f1 := g1.few.1
    have f2 := g2.few.1
    have l1 := pr1.length
    have l2 := pr2.length
    refine ⟨_, rfl, t1, _, 0, _, rfl, rfl, .inl (.inl ht1), rfl, _, rfl, t1, _, 1, _, rfl, rfl, .inl (.inl ht1), rfl, _, _, rfl, rfl, ?_⟩
    refine ⟨_, rfl, t1, _, 2, _, rfl, rfl, .inl (.inl ht1), rfl, _, rfl, t2, _, 2, _, rfl, rfl, .inl (.inl ht2), rfl, tb1, tb2, ts1, ts2, rfl, rfl, .inl (.inl htb1), .inl (.inl htb2), by omega, fun p H' s' hp => ?_⟩
    refine ⟨(n + m).toNat, p, _, bs ++ cs, by rw [Int.toNat_of_nonneg (by omega)]; rfl, hp, paired_app (grp_of (Paired.mapP pr1 fun _ _ h => h.same s')) (grp_of (Paired.mapP pr2 fun _ _ h => h.same s')), fun g hg => ?_, by omega, fun H2 s2 => q H2 (Same.trans s' s2)⟩
    rcases List.mem_append.mp hg with hg | hg
    · exact dg_gbd g1 g hg
    · exact dg_gbd g2 g hg
def spJoined (CD CB : Addr) : Sp := fun vs H Q E => ∃ (v1 v2 : V) (n m k q : Int) (bs cs : List (List Int)), vs = [v1, v2] ∧ DGv H v1 n m bs ∧ DgOk n m bs ∧ DGv H v2 k q cs ∧ DgOk k q cs ∧ (¬ IsDg n m bs → ∀ H', Same H H' → E (.ref CD) none H') ∧
  (IsDg n m bs → ¬ IsDg k q cs → ∀ H', Same H H' → E (.ref CD) none H') ∧ (IsDg n m bs → IsDg k q cs → ¬ (n = k ∧ m = q) → ∀ H', Same H H' → E (.ref CB) none H') ∧ (IsDg n m bs → IsDg k q cs → n = k → m = q → ∀ H', Same H H' → Q (.int (jpc (n + m).toNat bs cs : Nat)) H')
theorem ok_joined {f CD CB : Addr} {fd : FuncData} (F : Fun K "joined" "joined" s_joined f fd) (T : ErrC K mg "BadNumber" CB)
    {a_check_diagram : Addr} {fd_check_diagram : FuncData} (G_check_diagram : FnOk P w K mg base (L2N.CX P w) 3 a_check_diagram fd_check_diagram ["diagram"] (spCheckDiagram CD)) (g_check_diagram : mg "check_diagram" = some (.ref a_check_diagram)) (k_check_diagram : PySem.W.keepIn K (.ref a_check_diagram) = true) (b_check_diagram : Binds K fd_check_diagram ["diagram"] [])
    {a_joined_pieces : Addr} {fd_joined_pieces : FuncData} (G_joined_pieces : FnOk P w K mg base CX0 4 a_joined_pieces fd_joined_pieces ["one", "other"] spJp) (g_joined_pieces : mg "joined_pieces" = some (.ref a_joined_pieces)) (k_joined_pieces : PySem.W.keepIn K (.ref a_joined_pieces) = true) (b_joined_pieces : Binds K fd_joined_pieces ["one", "other"] []) :
    FnOk P w K mg base (L2N.CX P w) 5 f fd ["one", "other"] (spJoined CD CB) := by
  obtain ⟨gc_BadNumber, x_BadNumber, kc_BadNumber, bc_BadNumber, tc_BadNumber⟩ := T
  refine F.okXN sc_joined (fun vs H Q E h => ?_) (fun cdv A outer s H vs Q E hr h => ?_)
  · obtain ⟨v1, v2, n, m, k, q, bs, cs, rfl, _⟩ := h
    rfl
  · obtain ⟨v1, v2, n, m, k, q, bs, cs, rfl, d1, o1, d2, o2, e1, e2, e3, qq⟩ := h
    refine ⟨_, (pss_cons (ps_expr (pe_call G_check_diagram (hr.mono (by decide)) rfl g_check_diagram k_check_diagram b_check_diagram .nil (L2N.passes_call (L2N.takes_of rfl rfl rfl rfl) (fun _ _ _ _ h => h)) (pa_cons (pv 0) pa_nil)))
  (pss_cons (ps_expr (pe_call G_check_diagram (hr.mono (by decide)) rfl g_check_diagram k_check_diagram b_check_diagram .nil (L2N.passes_call (L2N.takes_of rfl rfl rfl rfl) (fun _ _ _ _ h => h)) (pa_cons (pv 1) pa_nil)))
  (pss_cons (ps_if (pt_cmpR (op_neD (room64 hr)) (pe_slice sl_tup (pv 0) po_none (po_some pe_int)) (pe_slice sl_tup (pv 1) po_none (po_some pe_int)) (nomark _)) (pss_one (L2N.ps_raise rfl (L2N.takes_of rfl rfl rfl rfl) (L2N.pmk_own PySem.F.excBase_ValueError x_BadNumber gc_BadNumber kc_BadNumber (raises_own bc_BadNumber tc_BadNumber) rfl))) pss_nil)
  (pss_one (ps_ret (pe_call G_joined_pieces (hr.mono (by decide)) rfl g_joined_pieces k_joined_pieces b_joined_pieces .nil pass0 (pa_cons (pv 0) (pa_cons (pv 1) pa_nil)))))))), ?_⟩
    have szl : 20000 ≤ sizeLine := by decide
    by_cases g1 : IsDg n m bs
    rotate_left
    · exact ⟨_, rfl, v1, n, m, bs, rfl, d1, o1, fun H1 s1 => ⟨fun g => absurd g g1, fun _ => e1 g1 H1 s1⟩⟩
    refine ⟨_, rfl, v1, n, m, bs, rfl, d1, o1, fun H1 s1 => ⟨fun _ => ?_, fun nd => absurd g1 nd⟩⟩
    by_cases g2 : IsDg k q cs
    rotate_left
    · exact ⟨_, rfl, v2, k, q, cs, rfl, d2.same s1, o2, fun H2 s2 => ⟨fun g => absurd g g2, fun _ => e2 g1 g2 H2 (Same.trans s1 s2)⟩⟩
    refine ⟨_, rfl, v2, k, q, cs, rfl, d2.same s1, o2, fun H2 s2 => ⟨fun _ => ?_, fun nd => absurd g2 nd⟩⟩
    have s12 := Same.trans s1 s2
    have d12 := d1.same s12
    have d22 := d2.same s12
    obtain ⟨t1, vb1, rfl, ht1, _⟩ := id d12
    obtain ⟨t2, vb2, rfl, ht2, _⟩ := id d22
    refine ⟨_, rfl, 2, rfl, t1, _, rfl, .inl (.inl ht1), (show ¬ (HT.sIx 3 0 none = 0 ∧ HT.sIx 3 3 (some 2) = 3) from by decide), fun p1 np1 => ?_⟩
    have w1 := same_upd (o := .tup (cutV [.int n, .int m, vb1] none (some 2))) np1
    refine ⟨_, rfl, 2, rfl, t2, _, rfl, .inl (.inl (w1 _ _ ht2)), (show ¬ (HT.sIx 3 0 none = 0 ∧ HT.sIx 3 3 (some 2) = 3) from by decide), fun p2 np2 => ?_⟩
    have w2 := same_upd (o := .tup (cutV [.int k, .int q, vb2] none (some 2))) np2
    have w12 := Same.trans w1 w2
    have s4 := Same.trans s12 w12
    refine ⟨dP2 n m, dP2 k q, .tup (.inl (.inl (w2 _ _ upd_same))) (.cons (.int n) (.cons (.int m) .nil)), .tup (.inl (.inl upd_same)) (.cons (.int k) (.cons (.int q) .nil)), dP2_shaped _ _, dP2_shaped _ _, ?_⟩
    rw [eqv_P2]
    by_cases c : n = k ∧ m = q
    · rw [decide_eq_true c]
      refine ⟨_, rfl, if_neg_of (by decide) ?_⟩
      obtain ⟨rfl, rfl⟩ := c
      exact ⟨_, rfl, _, rfl, .ref t1, .ref t2, n, m, bs, cs, rfl, d12.same w12, d22.same w12, g1, g2, fun H5 s5 => qq g1 g2 rfl rfl H5 (Same.trans s4 s5)⟩
    · rw [decide_eq_false c]
      exact ⟨_, rfl, if_pos_of (by decide) (e3 g1 g2 c _ s4)⟩
/-- the powers in a list, each a pair -/
def PwP (p d : Int) (H : Hp) (v : V) (k : Nat) : Prop := ∃ a, v = .ref a ∧ SqT K H a [.int (pwN p d k), .int 1]
def spLpow (K : PySem.W.Frag) (CW CN CB : Addr) : Sp := fun vs H Q E => ∃ (x : Addr) (p d : Int) (k : Nat), vs = [.ref x, .int (k : Int)] ∧ SqT K H x [.int p, .int d] ∧ isW p d = true ∧ k ≤ 12 ∧ ∀ (L : Addr) (us : List V) (H' : Hp), Same H H' → H L = none → H' L = some (.lst us) → Paired (fun v k => ∃ a, v = .ref a ∧ SqT K H' a [.int (pwN p d k), .int 1]) us (List.range (k + 1)) → Q (.ref L) H'
theorem ok_loop_powers {f CW CN CB : Addr} {fd : FuncData} (F : Fun K "loop_powers" "loop_powers" s_loop_powers f fd) (z_range : mg "range" = none)
    {a_power : Addr} {fd_power : FuncData} (G_power : FnOk P w K mg base (L2N.CX P w) 7 a_power fd_power ["world", "x", "count"] (spPower K CW CN CB)) (g_power : mg "power" = some (.ref a_power)) (k_power : PySem.W.keepIn K (.ref a_power) = true) (b_power : Binds K fd_power ["world", "x", "count"] [])
    {a_loop_worth : Addr} {fd_loop_worth : FuncData} (G_loop_worth : FnOk P w K mg base (L2N.CX P w) 3 a_loop_worth fd_loop_worth ["world"] (spLoopWorth K CW)) (g_loop_worth : mg "loop_worth" = some (.ref a_loop_worth)) (k_loop_worth : PySem.W.keepIn K (.ref a_loop_worth) = true) (b_loop_worth : Binds K fd_loop_worth ["world"] []) :
    FnOk P w K mg base (L2N.CX P w) 8 f fd ["world", "most"] (spLpow K CW CN CB) := by
  refine F.okXN sc_loop_powers (fun vs H Q E h => ?_) (fun cdv A outer s H vs Q E hr h => ?_)
  · obtain ⟨x, p, d, k, rfl, _⟩ := h
    rfl
  · obtain ⟨x, p, d, k, rfl, hx, hW, hk, q⟩ := h
    refine ⟨_, (pss_one (ps_ret (pe_lc (own := [("count", 2)]) rfl sc_loop_powers.nd (pi_range1 rfl z_range (pa_cons (pe_op op_add (pv 1) pe_int) pa_nil)) (blkOk_by (N := ["world", "most", "count"]) (sc := defScope s_loop_powers) (by first | decide +kernel | rfl)) (fun _ _ _ _ _ => (pg_name (i := 2) sc_loop_powers.nd rfl (.inl rfl))) (fun _ _ _ _ _ => pts_nil) (fun _ _ _ _ _ => (pe_call G_power (hr.mono (by decide)) rfl g_power k_power b_power .nil passLN (pa_cons (pv 0) (pa_cons (pe_call G_loop_worth (hr.mono (by decide)) rfl g_loop_worth k_loop_worth b_loop_worth .nil passLN (pa_cons (pv 0) pa_nil)) (pa_cons (pv 2) pa_nil)))))))), ?_⟩
    have szl : 20000 ≤ sizeLine := by decide
    refine ⟨_, rfl, _, _, rfl, rfl, ((k + 1 : Nat) : Int), rfl, by omega, by omega, fun D nD => ?_⟩
    refine lc_range (lo := 0) (n := k + 1) (fun i H' => SameBut D H H' ∧ ∃ us, H' D = some (.lst us) ∧ Paired (fun v k => ∃ a, v = .ref a ∧ SqT K H' a [.int (pwN p d k), .int 1]) us (List.range i)) ⟨SameBut.upd, [], upd_same, .nil⟩ (fun i H' hi hP => ?_) (fun H' hP => ?_)
    · obtain ⟨sb, us, hD, pr⟩ := hP
      have sH : Same H H' := fun b o e => sb b o (ne_of_none e nD) e
      have hx1 := sqT_same sH hx
      obtain ⟨hp, hd⟩ := isW_cases hW
      have hn := isN_d hW
      refine ⟨rfl, _, rfl, _, rfl, x, p, d, rfl, hx1, (fun e => nomatch hW.symm.trans e), fun _ r nr => ?_⟩
      have w1 := same_upd (o := .tup [.int d, .int 1]) nr
      refine ⟨_, rfl, x, r, p, d, d, 1, 0 + (i : Int), rfl, sqT_same w1 hx1, .inl (.inl upd_same), (fun e => nomatch hW.symm.trans e), (fun _ e => nomatch hn.symm.trans e), (fun _ _ e => absurd (show 0 ≤ 0 + (i : Int) ∧ 0 + (i : Int) ≤ 200 by omega) e), fun _ _ _ _ => ⟨by omega, hd, by decide, fun r2 u v H3 num s3 hr2 => ?_⟩⟩
      rw [show (0 + (i : Int)).toNat = i by omega] at num
      obtain ⟨rfl, rfl⟩ := pw_of hp num
      have s13 := Same.trans w1 s3
      have hD3 := s13 _ _ hD
      have keep : ∀ {a : Addr} {ys xs : List V}, SqT K H3 a xs → SqT K (upd H3 D (.lst ys)) a xs := fun {a ys xs} h => by
        rcases h with (h | ⟨o, h⟩) | h
        · exact .inl (.inl (by rw [upd_ne (fun z => by rw [z, hD3] at h; exact nomatch h)]; exact h))
        · exact .inl (.inr ⟨o, by rw [upd_ne (fun z => by rw [z, hD3] at h; exact nomatch h)]; exact h⟩)
        · exact .inr h
      have lu := pr.length
      rw [List.length_range] at lu
      refine ⟨us, hD3, by omega, fun b o nb e => by rw [upd_ne nb]; exact s13 _ _ (sb b o nb e), _, upd_same, ?_⟩
      rw [List.range_succ]
      exact paired_add ⟨r2, rfl, keep hr2⟩ (Paired.mapP pr fun _ _ ⟨a, e, h⟩ => ⟨a, e, keep (sqT_same s13 h)⟩)
    · obtain ⟨sb, us, hD, pr⟩ := hP
      exact q D us H' (fun b o e => sb b o (ne_of_none e nD) e) nD hD pr
end

/-! ### square tables -/
def rowV (S : Nat) (g : Nat → Int) : List V := (List.range S).map fun b => V.int (g b)
def matV (S : Nat) (f : Nat → Nat → Int) : List (List V) := (List.range S).map fun a => rowV S (f a)
theorem matV_get {S i : Nat} {f : Nat → Nat → Int} (h : i < S) : (matV S f)[i]? = some (rowV S (f i)) := by
  unfold matV
  rw [List.getElem?_map, List.getElem?_range h]
  rfl
theorem rowV_set {S j : Nat} {g : Nat → Int} (h : j < S) (v : Int) : (rowV S g).set j (V.int v) = rowV S fun b => if b = j then v else g b := by
  unfold rowV
  refine List.ext_getElem? fun b => ?_
  rw [List.getElem?_set, List.length_map, List.length_range]
  by_cases hb : b < S
  · rw [List.getElem?_map, List.getElem?_map, List.getElem?_range hb]
    by_cases e : j = b
    · rw [if_pos e, if_pos h]
      show some (V.int v) = some (V.int (if b = j then v else g b))
      rw [if_pos e.symm]
    · rw [if_neg e]
      show some (V.int (g b)) = some (V.int (if b = j then v else g b))
      rw [if_neg (Ne.symm e)]
  · rw [List.getElem?_eq_none (by rw [List.length_map, List.length_range]; omega), List.getElem?_eq_none (by rw [List.length_map, List.length_range]; omega)]
    by_cases e : j = b
    · omega
    · rw [if_neg e]
theorem matV_set {S i j : Nat} {f : Nat → Nat → Int} (hi : i < S) (hj : j < S) (v : Int) : (matV S f).set i ((rowV S (f i)).set j (V.int v)) = matV S fun a b => if a = i ∧ b = j then v else f a b := by
  rw [rowV_set hj]
  unfold matV
  refine List.ext_getElem? fun a => ?_
  rw [List.getElem?_set, List.length_map, List.length_range]
  by_cases ha : a < S
  · rw [List.getElem?_map, List.getElem?_map, List.getElem?_range ha]
    by_cases e : i = a
    · rw [if_pos e, if_pos hi]
      subst e
      show some (rowV S _) = some (rowV S _)
      congr 2
      funext b
      show (if b = j then v else f i b) = if i = i ∧ b = j then v else f i b
      by_cases eb : b = j
      · rw [if_pos eb, if_pos ⟨rfl, eb⟩]
      · rw [if_neg eb, if_neg fun z => eb z.2]
    · rw [if_neg e]
      show some (rowV S _) = some (rowV S _)
      congr 2
      funext b
      show f a b = if a = i ∧ b = j then v else f a b
      rw [if_neg fun z => e z.1.symm]
  · rw [List.getElem?_eq_none (by rw [List.length_map, List.length_range]; omega), List.getElem?_eq_none (by rw [List.length_map, List.length_range]; omega)]
    by_cases e : i = a
    · omega
    · rw [if_neg e]
theorem rowV_len (S : Nat) (g : Nat → Int) : (rowV S g).length = S := by unfold rowV; rw [List.length_map, List.length_range]
theorem matV_len (S : Nat) (f : Nat → Nat → Int) : (matV S f).length = S := by unfold matV; rw [List.length_map, List.length_range]
def jpE (N : Nat) (ls : List (List (List Int))) (a b : Nat) : Int := ((jpc N (ls.getD (max a b) []) (ls.getD (min a b) []) : Nat) : Int)
def jpP (N : Nat) (ls : List (List (List Int))) (i j a b : Nat) : Int := if max a b < i ∨ (max a b = i ∧ min a b < j) then jpE N ls a b else 0
theorem jpP_step (N : Nat) (ls : List (List (List Int))) (i j : Nat) (h : j ≤ i) : (fun a b => if a = j ∧ b = i then jpE N ls i j else if a = i ∧ b = j then jpE N ls i j else jpP N ls i j a b) = jpP N ls i (j + 1) := by
  funext a b
  unfold jpP
  by_cases c1 : a = j ∧ b = i
  · rw [if_pos c1, if_pos (by omega)]
    unfold jpE
    rw [show max a b = max i j by omega, show min a b = min i j by omega]
  · rw [if_neg c1]
    by_cases c2 : a = i ∧ b = j
    · rw [if_pos c2, if_pos (by omega), c2.1, c2.2]
    · rw [if_neg c2]
      by_cases c3 : max a b < i ∨ (max a b = i ∧ min a b < j)
      · rw [if_pos c3, if_pos (by omega)]
      · rw [if_neg c3, if_neg (by omega)]
theorem jpP_row (N : Nat) (ls : List (List (List Int))) (i : Nat) : jpP N ls i (i + 1) = jpP N ls (i + 1) 0 := by
  funext a b
  unfold jpP
  by_cases c3 : max a b < i ∨ (max a b = i ∧ min a b < i + 1)
  · rw [if_pos c3, if_pos (by omega)]
  · rw [if_neg c3, if_neg (by omega)]
theorem jpP_zero (N : Nat) (ls : List (List (List Int))) (S : Nat) : matV S (jpP N ls 0 0) = List.replicate S (List.replicate S (V.int 0)) := by
  unfold matV
  refine List.eq_replicate_iff.mpr ⟨by rw [List.length_map, List.length_range], fun r hr => ?_⟩
  obtain ⟨a, _, rfl⟩ := List.mem_map.mp hr
  refine List.eq_replicate_iff.mpr ⟨rowV_len _ _, fun x hx => ?_⟩
  obtain ⟨b, _, rfl⟩ := List.mem_map.mp hx
  unfold jpP
  rw [if_neg (by omega)]
theorem matV_congr {S : Nat} {f g : Nat → Nat → Int} (h : ∀ a b, a < S → b < S → f a b = g a b) : matV S f = matV S g := by
  unfold matV rowV
  refine List.map_congr_left fun a ha => List.map_congr_left fun b hb => ?_
  rw [h a b (List.mem_range.mp ha) (List.mem_range.mp hb)]
theorem TabH.row {H0 H : Hp} {L : Addr} {rows : List (List V)} (t : TabH H0 H L rows) {us : List V} (hL : H L = some (.lst us)) {i : Nat} {r : List V} (e : rows[i]? = some r) : ∃ a, us[i]? = some (.ref a) ∧ a ≠ L ∧ H0 a = none ∧ H a = some (.lst r) := by
  obtain ⟨f, us', hL', nd, pr⟩ := t
  obtain rfl : us' = us := HO.lst.inj (Option.some.inj (hL'.symm.trans hL))
  have l := pr.length
  have hi := (List.getElem?_eq_some_iff.mp e).1
  have eu : us'[i]? = some us'[i] := List.getElem?_eq_getElem (by omega)
  obtain ⟨r', er, a, ea, h1, h2, h3⟩ := paired_get pr eu
  obtain rfl := Option.some.inj (er.symm.trans e)
  exact ⟨a, by rw [eu, ea], h1, h2, h3⟩
def tabJ (z : Str) (n m : Nat) : List (List V) := matV (listF z n m).length (jpE (n + m) (listF z n m))
theorem cutV_to {l : List V} (b : Nat) : cutV l none (some (b : Int)) = l.take b := by
  show (l.drop _).take _ = _
  rw [HT.sIx_none, HT.sIx_nat, List.drop_zero, Nat.sub_zero, List.take_eq_take_iff]
  omega
section
variable {P : Program} {w : World} {K : PySem.W.Frag} {mg : Str → Option Value} {base : Heap}
def spClosings (CF CB CT : Addr) : Sp := fun vs H Q E => ∃ (z : Str) (n m : Int), vs = [.str z, .int n, .int m] ∧ (z ∉ fams → E (.ref CF) none H) ∧ (z ∈ fams → siz n m = false → E (.ref CB) none H) ∧
  (z ∈ fams → siz n m = true → (250 < cntV z n.toNat m.toNat → ∀ H', Same H H' → E (.ref CT) none H') ∧
    (cntV z n.toNat m.toNat ≤ 250 → (cntV z n.toNat m.toNat ≠ 0 → ∀ k, k ≤ n.toNat + m.toNat → (rowsF z n k).length ≤ 10000) ∧ (listF z n.toNat m.toNat).length ≤ 250 ∧
      ∀ (L : Addr) (H' : Hp), Same H H' → TabH H H' L (tabJ z n.toNat m.toNat) → Q (.ref L) H'))
theorem ok_closings {f CF CB CT : Addr} {fd : FuncData} (F : Fun K "closings" "closings" s_closings f fd) (z_len : mg "len" = none) (z_enumerate : mg "enumerate" = none)
    {a_listed : Addr} {fd_listed : FuncData} (G_listed : FnOk P w K mg base (L2N.CX P w) 5 a_listed fd_listed ["family", "n", "m"] (spListed CF CB CT)) (g_listed : mg "listed" = some (.ref a_listed)) (k_listed : PySem.W.keepIn K (.ref a_listed) = true) (b_listed : Binds K fd_listed ["family", "n", "m"] [])
    {a_joined_pieces : Addr} {fd_joined_pieces : FuncData} (G_joined_pieces : FnOk P w K mg base CX0 4 a_joined_pieces fd_joined_pieces ["one", "other"] spJp) (g_joined_pieces : mg "joined_pieces" = some (.ref a_joined_pieces)) (k_joined_pieces : PySem.W.keepIn K (.ref a_joined_pieces) = true) (b_joined_pieces : Binds K fd_joined_pieces ["one", "other"] []) :
    FnOk P w K mg base (L2N.CX P w) 6 f fd ["family", "n", "m"] (spClosings CF CB CT) := by
  refine F.okXN sc_closings (fun vs H Q E h => ?_) (fun cdv A outer s H vs Q E hr h => ?_)
  · obtain ⟨z, n, m, rfl, _⟩ := h
    rfl
  · obtain ⟨z, n, m, rfl, q1, q2, q3⟩ := h
    refine ⟨_, (Evl.pss_cut (ps_set (i := 3) sc_closings.nd rfl (.inr rfl) (pe_call G_listed (hr.mono (by decide)) rfl g_listed k_listed b_listed .nil (L2N.passes_call (L2N.takes_of rfl rfl rfl rfl) (fun _ _ _ _ h => h)) (pa_cons (pv 0) (pa_cons (pv 1) (pa_cons (pv 2) pa_nil)))))
  (Evl.pss_cut (ps_setLc (i := 4) (own := [("_", 9)]) rfl sc_closings.nd rfl rfl (sw_true rfl rfl rfl (by decide +kernel)) (pi_list (pv 3)) (blkOk_by (N := ["family", "n", "m", "diagrams", "table", "i", "one", "j", "other", "_"]) (sc := defScope s_closings) (by first | decide +kernel | rfl)) (fun _ _ _ _ _ => (pg_name (i := 9) sc_closings.nd rfl (.inl rfl))) (fun _ _ _ _ _ => pts_nil) (fun _ _ _ _ _ => (pe_op op_rep (pe_lst (pa_cons pe_int pa_nil)) (pe_callB (call_len_seqK (K := K) rfl) (by rfl) z_len boot_len (pa_cons (pv 3) pa_nil)))))
  (pss_cons (ps_for (passes_of rfl) rfl (pi_enum rfl z_enumerate (pa_cons (pv 3) pa_nil)) (pg_tup rfl (pgs_cons (pg_name (i := 5) sc_closings.nd rfl (.inl rfl)) (pgs_cons (pg_name (i := 6) sc_closings.nd rfl (.inl rfl)) pgs_nil))) (pss_one (ps_for (passes_of rfl) rfl (pi_enum rfl z_enumerate (pa_cons (pe_slice sl_list (pv 3) po_none (po_some (pe_op op_add (pv 5) pe_int))) pa_nil)) (pg_tup rfl (pgs_cons (pg_name (i := 7) sc_closings.nd rfl (.inl rfl)) (pgs_cons (pg_name (i := 8) sc_closings.nd rfl (.inl rfl)) pgs_nil))) (pss_one (ps_asg2 (pe_call G_joined_pieces (hr.mono (by decide)) rfl g_joined_pieces k_joined_pieces b_joined_pieces .nil pass0 (pa_cons (pv 6) (pa_cons (pv 8) pa_nil))) (pg_sub (pe_ix ix_list (pv 4) (pv 5) (fun _ _ => rfl)) (pv 7) set_list) (pg_sub (pe_ix ix_list (pv 4) (pv 7) (fun _ _ => rfl)) (pv 5) set_list))))))
  (pss_one (ps_ret (pv 4)))))), ?_⟩
    have szl : 20000 ≤ sizeLine := by decide
    refine ⟨fun σ H' => ∃ (L : Addr) (ps : List V), z ∈ fams ∧ siz n m = true ∧ cntV z n.toNat m.toNat ≤ 250 ∧ σ = [some (.str z), some (.int n), some (.int m), some (.ref L), none, none, none, none, none, none] ∧ Same H H' ∧ H' L = some (.lst ps) ∧ Paired (fun v bs => DGv H' v n m bs) ps (listF z n.toNat m.toNat), ?_, ?_⟩
    · refine ⟨_, rfl, _, rfl, _, rfl, z, n, m, rfl, q1, q2, fun mz hs => ⟨(q3 mz hs).1, fun c => ⟨((q3 mz hs).2 c).1, fun L ps H1 s1 hL pr => ⟨L, ps, mz, hs, c, rfl, s1, hL, pr⟩⟩⟩⟩
    rintro σ H1 ⟨L, ps, mz, hs, c, rfl, s1, hL, pr⟩
    obtain ⟨_, l250, q⟩ := (q3 mz hs).2 c
    have zs := siz_iff.mp hs
    obtain ⟨n, rfl⟩ : ∃ u : Nat, n = (u : Int) := ⟨n.toNat, by omega⟩
    obtain ⟨m, rfl⟩ : ∃ u : Nat, m = (u : Int) := ⟨m.toNat, by omega⟩
    rw [Int.toNat_natCast, Int.toNat_natCast] at *
    have lps := pr.length
    have isd : ∀ bs ∈ listF z n m, IsDg (n : Int) (m : Int) bs := fun bs mb => by
      unfold listF at mb
      split at mb
      · exact nomatch mb
      · obtain ⟨row, hrow, rfl⟩ := List.mem_map.mp (List.mem_filter.mp mb).1
        have := (rowsF_ok hrow).1
        exact isDg_blocks hs (by omega)
    clear q1 q2 q3
    unfold tabJ at q
    generalize listF z n m = ls at *
    refine ⟨fun σ H' => ∃ (T : Addr), σ = [some (.str z), some (.int n), some (.int m), some (.ref L), some (.ref T), none, none, none, none, none] ∧ Same H1 H' ∧ TabH H1 H' T (List.replicate ls.length (List.replicate ls.length (V.int 0))), ?_, ?_⟩
    · refine ⟨_, rfl, L, rfl, ⟨_, .inl (.inl hL)⟩, fun D nD => ?_⟩
      have LD : L ≠ D := ne_of_none hL nD
      refine lc_list (xs := ps) (fun i H' => SameBut D H1 H' ∧ TabH H1 H' D (List.replicate i (List.replicate ls.length (V.int 0)))) ⟨SameBut.upd, TabH.new nD upd_same⟩ (fun i H' _ hP => .inl (.inl (hP.1 _ _ LD hL))) (fun i y H' hy hP => ?_) (fun H' hP => ?_)
      · obtain ⟨sb, tb⟩ := hP
        have hi := (List.getElem?_eq_some_iff.mp hy).1
        refine ⟨rfl, (by show 1 ≤ sizeLine; decide), fun q1 nq1 => ?_⟩
        have w1 := same_upd (o := .lst [V.int 0]) nq1
        refine ⟨_, rfl, L, ps, rfl, .inl (.inl (.inl (w1 _ _ (sb _ _ LD hL)))), q1, (ps.length : Int), [V.int 0], rfl, rfl, upd_same, by omega, by omega, by show 1 * _ ≤ _; omega, fun q2 nq2 => ?_⟩
        rw [show (List.replicate ((ps.length : Int)).toNat [V.int 0]).flatten = List.replicate ls.length (V.int 0) by rw [repT, lps]; rfl]
        have tb1 := tb.same w1
        obtain ⟨us, hD, _⟩ := id tb1.ex
        have f2 : H1 q2 = none := by
          cases e : H1 q2 with
          | none => rfl
          | some o => exact nomatch nq2.symm.trans (w1 _ _ (sb _ _ (fun z => by rw [z, hD] at nq2; exact nomatch nq2) e))
        have tp := tb1.push (r := List.replicate ls.length (V.int 0)) hD nq2 f2
        have w2 := same_upd (o := .lst (List.replicate ls.length (V.int 0))) nq2
        have lus := (show us.length = i from by obtain ⟨us', hD', _, pu⟩ := tb1.ex; obtain rfl : us' = us := HO.lst.inj (Option.some.inj (hD'.symm.trans hD)); rw [pu.length, List.length_replicate])
        refine ⟨us, w2 _ _ hD, by omega, fun b o nb e => by rw [upd_ne nb]; exact w2 _ _ (w1 _ _ (sb b o nb e)), ?_⟩
        rw [List.replicate_succ']
        exact tp
      · obtain ⟨sb, tb⟩ := hP
        rw [lps] at tb
        exact ⟨D, rfl, fun b o e => sb b o (ne_of_none e nD) e, tb⟩
    rintro σ H2 ⟨T, rfl, s2, tb⟩
    rw [← jpP_zero (n + m) ls ls.length] at tb
    obtain ⟨us, hT, _, _⟩ := id tb.ex
    refine ⟨_, rfl, L, ps, rfl, .inl (.inl (s2 _ _ hL)), for_it walk_enum (fun i σ H' => ∃ (v5 v6 v7 v8 : Option V), σ = [some (.str z), some (.int n), some (.int m), some (.ref L), some (.ref T), v5, v6, v7, v8, none] ∧ Same H1 H' ∧ H' T = some (.lst us) ∧ TabH H1 H' T (matV ls.length (jpP (n + m) ls i 0)))
      ⟨none, none, none, none, rfl, s2, hT, tb⟩ (fun i σ H' _ ⟨_, _, _, _, _, s', _⟩ => .inl (.inl (s' _ _ hL))) (fun i y σ H3 H4 hi hP hy => ?_) (fun σ H3 hP => ?_)⟩
    · obtain ⟨v5, v6, v7, v8, rfl, s3, hT3, tb3⟩ := hP
      obtain ⟨p, x, one, rfl, np, rfl, ex, ey⟩ := hy
      obtain rfl : V.int (i : Nat) = x := Option.some.inj ex
      obtain ⟨bs, ebs, d1⟩ := paired_at pr ey
      have w4 := same_upd (o := .tup [.int (i : Nat), one]) np
      have s4 := Same.trans s3 w4
      refine ⟨p, _, rfl, .inl (.inl upd_same), rfl, _, _, rfl, _, _, rfl, rfl, ?_⟩
      refine ⟨_, rfl, _, rfl, _, _, rfl, rfl, ((i + 1 : Nat) : Int), rfl, L, ps, rfl, .inl (.inl (s4 _ _ hL)), fun p2 np2 => ?_⟩
      rw [cutV_to] at *
      have w5 := same_upd (o := .lst (ps.take (i + 1))) np2
      have s5 := Same.trans s4 w5
      have tb5 := (tb3.same w4).same w5
      have hT5 := w5 _ _ (w4 _ _ hT3)
      have out5 : ∀ (k : Nat) (a : Addr), us[k]? = some (V.ref a) → a ≠ p2 := fun k a e z => by
        obtain ⟨us', hT', _, pu⟩ := (tb3.same w4).ex
        obtain rfl : us' = us := HO.lst.inj (Option.some.inj (hT'.symm.trans (w4 _ _ hT3)))
        obtain ⟨_, _, a', e', _, _, ha⟩ := paired_get pu e
        obtain rfl := V.ref.inj e'
        rw [z, np2] at ha
        exact nomatch ha
      have nT2 : T ≠ p2 := fun z => by
        have := w4 _ _ hT3
        rw [z, np2] at this
        exact nomatch this
      have hp5 : upd (upd H3 p (.tup [.int (i : Nat), one])) p2 (.lst (ps.take (i + 1))) p2 = some (.lst (ps.take (i + 1))) := upd_same
      revert s5 tb5 hT5 hp5
      generalize upd (upd H3 p (.tup [.int (i : Nat), one])) p2 (.lst (ps.take (i + 1))) = H5
      intro s5 tb5 hT5 hp5
      have lt : (ps.take (i + 1)).length = i + 1 := by rw [List.length_take]; omega
      refine ⟨p2, _, rfl, .inl (.inl hp5), for_it walk_enum (fun j σ H' => ∃ (v7 v8 : Option V), σ = [some (.str z), some (.int n), some (.int m), some (.ref L), some (.ref T), some (.int (i : Nat)), some one, v7, v8, none] ∧ Same H1 H' ∧ H' T = some (.lst us) ∧ H' p2 = some (.lst (ps.take (i + 1))) ∧ TabH H1 H' T (matV ls.length (jpP (n + m) ls i j)))
        ⟨v7, v8, rfl, s5, hT5, hp5, tb5⟩ (fun j σ H' _ ⟨_, _, _, _, _, h, _⟩ => .inl (.inl h)) (fun j y σ H6 H7 hj hP hy => ?_) (fun σ H6 hP => ?_)⟩
      · obtain ⟨v7, v8, rfl, s6, hT6, hp6, tb6⟩ := hP
        obtain ⟨p3, x, two, rfl, np3, rfl, ex, ey2⟩ := hy
        obtain rfl : V.int (j : Nat) = x := Option.some.inj ex
        rw [lt] at hj
        have ey2 : (ps.take (i + 1))[j]? = some two := ey2
        rw [List.getElem?_take_of_lt hj] at ey2
        obtain ⟨cs, ecs, d2⟩ := paired_at pr ey2
        have w7 := same_upd (o := .tup [.int (j : Nat), two]) np3
        have s7 := Same.trans s6 w7
        refine ⟨p3, _, rfl, .inl (.inl upd_same), rfl, _, _, rfl, _, _, rfl, rfl, ?_⟩
        refine ⟨_, rfl, _, rfl, one, two, n, m, bs, cs, rfl, d1.same s7, d2.same s7, isd bs (List.mem_of_getElem? ebs), isd cs (List.mem_of_getElem? ecs), fun H8 s8 => ?_⟩
        have ev : ((jpc ((n : Int) + (m : Int)).toNat bs cs : Nat) : Int) = jpE (n + m) ls i j := by
          unfold jpE
          rw [show ((n : Int) + (m : Int)).toNat = n + m by omega, show max i j = i by omega, show min i j = j by omega, List.getD_eq_getElem?_getD, List.getD_eq_getElem?_getD, ebs, ecs]
          rfl
        rw [ev]
        have s78 := Same.trans w7 s8
        have s18 := Same.trans s6 s78
        have tb8 := tb6.same s78
        have hT8 := s78 _ _ hT6
        have hp8 := s78 _ _ hp6
        have iS : i < ls.length := by omega
        have jS : j < ls.length := by omega
        obtain ⟨ai, eai, aiT, ai0, hai⟩ := tb8.row hT8 (matV_get (f := jpP (n + m) ls i j) iS)
        refine ⟨_, rfl, _, rfl, T, us, (i : Int), .ref ai, rfl, rfl, .inl (.inl hT8), atI_nat eai, _, rfl, ai, _, (j : Int), j, rfl, rfl, hai, ixN_nat (by rw [rowV_len]; exact jS), ?_⟩
        have tb9 := tb8.set hT8 eai ((rowV ls.length (jpP (n + m) ls i j i)).set j (V.int (jpE (n + m) ls i j)))
        have o9 := tb8.out hT8 eai ((rowV ls.length (jpP (n + m) ls i j i)).set j (V.int (jpE (n + m) ls i j)))
        have hT9 : upd H8 ai (.lst ((rowV ls.length (jpP (n + m) ls i j i)).set j (V.int (jpE (n + m) ls i j)))) T = some (.lst us) := by rw [upd_ne (Ne.symm aiT)]; exact hT8
        have hp9 : upd H8 ai (.lst ((rowV ls.length (jpP (n + m) ls i j i)).set j (V.int (jpE (n + m) ls i j)))) p2 = some (.lst (ps.take (i + 1))) := by rw [upd_ne (Ne.symm (out5 _ _ eai))]; exact hp8
        rw [matV_set iS jS] at tb9
        have s19 : Same H1 (upd H8 ai (.lst ((rowV ls.length (jpP (n + m) ls i j i)).set j (V.int (jpE (n + m) ls i j))))) := fun b o e => o9 b o e (s18 _ _ e)
        obtain ⟨aj, eaj, ajT, aj0, haj⟩ := tb9.row hT9 (matV_get jS)
        refine ⟨_, rfl, _, rfl, T, us, (j : Int), .ref aj, rfl, rfl, .inl (.inl hT9), atI_nat eaj, _, rfl, aj, _, (i : Int), i, rfl, rfl, haj, ixN_nat (by rw [rowV_len]; exact iS), ?_⟩
        have tb10 := tb9.set hT9 eaj ((rowV ls.length ((fun a b => if a = i ∧ b = j then jpE (n + m) ls i j else jpP (n + m) ls i j a b) j)).set i (V.int (jpE (n + m) ls i j)))
        have o10 := tb9.out hT9 eaj ((rowV ls.length ((fun a b => if a = i ∧ b = j then jpE (n + m) ls i j else jpP (n + m) ls i j a b) j)).set i (V.int (jpE (n + m) ls i j)))
        rw [matV_set jS iS, jpP_step (n + m) ls i j (by omega)] at tb10
        refine ⟨_, _, rfl, fun b o e => o10 b o e (s19 _ _ e), ?_, ?_, tb10⟩
        · rw [upd_ne (Ne.symm ajT)]
          exact hT9
        · rw [upd_ne (Ne.symm (out5 _ _ eaj))]
          exact hp9
      · obtain ⟨v7, v8, rfl, s6, hT6, hp6, tb6⟩ := hP
        rw [lt, jpP_row] at tb6
        exact ⟨_, _, _, _, rfl, s6, hT6, tb6⟩
    · obtain ⟨v5, v6, v7, v8, rfl, s3, hT3, tb3⟩ := hP
      rw [lps, matV_congr (g := jpE (n + m) ls) (fun a b ha hb => by unfold jpP; rw [if_pos (by omega)])] at tb3
      exact ⟨_, rfl, q T H3 (Same.trans s1 s3) (TabH.from s1 tb3)⟩
end

/-! ### worths -/
def tabN (z : Str) (n m : Nat) : List (List Nat) := (List.range (listF z n m).length).map fun a => (List.range (listF z n m).length).map fun b => jpc (n + m) ((listF z n m).getD (max a b) []) ((listF z n m).getD (min a b) [])
theorem tabJ_N (z : Str) (n m : Nat) : tabJ z n m = (tabN z n m).map fun r => r.map fun k => V.int ((k : Nat) : Int) := by
  unfold tabJ matV tabN rowV
  rw [List.map_map]
  refine List.map_congr_left fun a _ => ?_
  show _ = List.map _ (List.map _ _)
  rw [List.map_map]
  rfl
theorem jpc_le {n m : Int} {bs cs : List (List Int)} (h1 : IsDg n m bs) (h2 : IsDg n m cs) : jpc (n + m).toNat bs cs ≤ (n + m).toNat := by
  unfold jpc
  have gb : GBd (n + m).toNat (bs ++ cs) := fun g hg => by
    rcases List.mem_append.mp hg with hg | hg
    · exact dg_gbd h1 g hg
    · exact dg_gbd h2 g hg
  have l := (ks_pcs gb).len
  have := seenL_len (pcs (n + m).toNat (bs ++ cs)) []
  unfold cnt
  have e : ([] : List Int).length = 0 := rfl
  omega
theorem listF_dg {z : Str} {n m : Nat} (hs : siz (n : Int) (m : Int) = true) : ∀ bs ∈ listF z n m, IsDg (n : Int) (m : Int) bs := fun bs mb => by
  unfold listF at mb
  split at mb
  · exact nomatch mb
  · obtain ⟨row, hrow, rfl⟩ := List.mem_map.mp (List.mem_filter.mp mb).1
    have := (rowsF_ok hrow).1
    exact isDg_blocks hs (by omega)
theorem tabN_le {z : Str} {n m : Nat} (hs : siz (n : Int) (m : Int) = true) : ∀ r ∈ tabN z n m, r.length = (listF z n m).length ∧ ∀ k ∈ r, k ≤ n + m := fun r hr => by
  unfold tabN at hr
  obtain ⟨a, ha, rfl⟩ := List.mem_map.mp hr
  refine ⟨by rw [List.length_map, List.length_range], fun k hk => ?_⟩
  obtain ⟨b, hb, rfl⟩ := List.mem_map.mp hk
  have ha := List.mem_range.mp ha
  have hb := List.mem_range.mp hb
  have g : ∀ c, c < (listF z n m).length → IsDg (n : Int) (m : Int) ((listF z n m).getD c []) := fun c hc => by
    rw [List.getD_eq_getElem?_getD, List.getElem?_eq_getElem hc]
    exact listF_dg hs _ (List.getElem_mem hc)
  have := jpc_le (g (max a b) (by omega)) (g (min a b) (by omega))
  rwa [show ((n : Int) + (m : Int)).toNat = n + m by omega] at this
def PwT (K : PySem.W.Frag) (p d : Int) (H : Hp) (v : V) (k : Nat) : Prop := ∃ a, v = .ref a ∧ SqT K H a [.int (pwN p d k), .int 1]
theorem PwT.same {K : PySem.W.Frag} {p d : Int} {H H' : Hp} {v : V} {k : Nat} (s : Same H H') (h : PwT K p d H v k) : PwT K p d H' v k := by
  obtain ⟨a, e, h⟩ := h
  exact ⟨a, e, sqT_same s h⟩
/-- rows of powers -/
def RowsP (K : PySem.W.Frag) (p d : Int) (H : Hp) (us : List V) (rows : List (List Nat)) : Prop := Paired (fun v row => ∃ a xs, v = .ref a ∧ H a = some (.lst xs) ∧ Paired (PwT K p d H) xs row) us rows
section
variable {P : Program} {w : World} {K : PySem.W.Frag} {mg : Str → Option Value} {base : Heap}
def spWorths (K : PySem.W.Frag) (CW CF CB CT : Addr) : Sp := fun vs H Q E => ∃ (x : Addr) (p d : Int) (z : Str) (n m : Int), vs = [.ref x, .str z, .int n, .int m] ∧ SqT K H x [.int p, .int d] ∧ (isW p d = false → E (.ref CW) none H) ∧
  (isW p d = true → (z ∉ fams → E (.ref CF) none H) ∧ (z ∈ fams → siz n m = false → E (.ref CB) none H) ∧
  (z ∈ fams → siz n m = true → (250 < cntV z n.toNat m.toNat → ∀ H', Same H H' → E (.ref CT) none H') ∧
    (cntV z n.toNat m.toNat ≤ 250 → (cntV z n.toNat m.toNat ≠ 0 → ∀ k, k ≤ n.toNat + m.toNat → (rowsF z n k).length ≤ 10000) ∧ (listF z n.toNat m.toNat).length ≤ 250 ∧
      ∀ (L : Addr) (us : List V) (H' : Hp), Same H H' → H' L = some (.lst us) → RowsP K p d H' us (tabN z n.toNat m.toNat) → Q (.ref L) H')))
theorem ok_worths {f CW CN CF CB CT : Addr} {fd : FuncData} (F : Fun K "worths" "worths" s_worths f fd)
    {a_check_world : Addr} {fd_check_world : FuncData} (G_check_world : FnOk P w K mg base (L2N.CX P w) 2 a_check_world fd_check_world ["world"] (spCheckWorld K CW)) (g_check_world : mg "check_world" = some (.ref a_check_world)) (k_check_world : PySem.W.keepIn K (.ref a_check_world) = true) (b_check_world : Binds K fd_check_world ["world"] [])
    {a_closings : Addr} {fd_closings : FuncData} (G_closings : FnOk P w K mg base (L2N.CX P w) 6 a_closings fd_closings ["family", "n", "m"] (spClosings CF CB CT)) (g_closings : mg "closings" = some (.ref a_closings)) (k_closings : PySem.W.keepIn K (.ref a_closings) = true) (b_closings : Binds K fd_closings ["family", "n", "m"] [])
    {a_loop_powers : Addr} {fd_loop_powers : FuncData} (G_loop_powers : FnOk P w K mg base (L2N.CX P w) 8 a_loop_powers fd_loop_powers ["world", "most"] (spLpow K CW CN CB)) (g_loop_powers : mg "loop_powers" = some (.ref a_loop_powers)) (k_loop_powers : PySem.W.keepIn K (.ref a_loop_powers) = true) (b_loop_powers : Binds K fd_loop_powers ["world", "most"] []) :
    FnOk P w K mg base (L2N.CX P w) 9 f fd ["world", "family", "n", "m"] (spWorths K CW CF CB CT) := by
  refine F.okXN sc_worths (fun vs H Q E h => ?_) (fun cdv A outer s H vs Q E hr h => ?_)
  · obtain ⟨x, p, d, z, n, m, rfl, _⟩ := h
    rfl
  · obtain ⟨x, p, d, z, n, m, rfl, hx, qW, q⟩ := h
    refine ⟨_, (pss_cons (ps_expr (pe_call G_check_world (hr.mono (by decide)) rfl g_check_world k_check_world b_check_world .nil (L2N.passes_call (L2N.takes_of rfl rfl rfl rfl) (fun _ _ _ _ h => h)) (pa_cons (pv 0) pa_nil)))
  (pss_cons (ps_set (i := 4) sc_worths.nd rfl (.inl rfl) (pe_call G_closings (hr.mono (by decide)) rfl g_closings k_closings b_closings .nil (L2N.passes_call (L2N.takes_of rfl rfl rfl rfl) (fun _ _ _ _ h => h)) (pa_cons (pv 1) (pa_cons (pv 2) (pa_cons (pv 3) pa_nil)))))
  (pss_cons (ps_set (i := 5) sc_worths.nd rfl (.inr rfl) (pe_call G_loop_powers (hr.mono (by decide)) rfl g_loop_powers k_loop_powers b_loop_powers .nil (L2N.passes_call (L2N.takes_of rfl rfl rfl rfl) (fun _ _ _ _ h => h)) (pa_cons (pv 0) (pa_cons (pe_op op_add (pv 2) (pv 3)) pa_nil))))
  (pss_one (ps_ret (pe_lc (own := [("row", 6)]) rfl sc_worths.nd (pi_list (pv 4)) (blkOk_by (N := ["world", "family", "n", "m", "table", "powers", "row", "k"]) (sc := defScope s_worths) (by first | decide +kernel | rfl)) (fun _ _ _ _ _ => (pg_name (i := 6) sc_worths.nd rfl (.inl rfl))) (fun _ _ _ _ _ => pts_nil) (fun _ _ _ _ _ => (pe_lc (own := [("k", 7)]) rfl sc_worths.nd (pi_listK (K := K) rfl (pv 6)) (blkOk_by (N := ["world", "family", "n", "m", "table", "powers", "row", "k"]) (by first | decide +kernel | rfl)) (fun _ _ _ _ _ => (pg_name (i := 7) sc_worths.nd rfl (.inl rfl))) (fun _ _ _ _ _ => pts_nil) (fun _ _ _ _ _ => (pe_ix (ix_listK (K := K) rfl) (pv 5) (pv 7) (fun _ _ => rfl))))))))))), ?_⟩
    have szl : 20000 ≤ sizeLine := by decide
    refine ⟨_, rfl, x, p, d, rfl, hx, fun hW => ?_, qW⟩
    obtain ⟨q1, q2, q3⟩ := q hW
    refine ⟨_, rfl, _, rfl, _, rfl, z, n, m, rfl, q1, q2, fun mz hs => ⟨(q3 mz hs).1, fun c => ⟨((q3 mz hs).2 c).1, ((q3 mz hs).2 c).2.1, fun L H1 s1 tb => ?_⟩⟩⟩
    obtain ⟨_, l250, q⟩ := (q3 mz hs).2 c
    have zs := siz_iff.mp hs
    obtain ⟨n, rfl⟩ : ∃ u : Nat, n = (u : Int) := ⟨n.toNat, by omega⟩
    obtain ⟨m, rfl⟩ : ∃ u : Nat, m = (u : Int) := ⟨m.toNat, by omega⟩
    rw [Int.toNat_natCast, Int.toNat_natCast] at *
    have tl := tabN_le (z := z) hs
    have tlen : (tabN z n m).length = (listF z n m).length := by unfold tabN; rw [List.length_map, List.length_range]
    rw [tabJ_N] at tb
    generalize tabN z n m = rows at *
    refine ⟨_, rfl, _, rfl, _, rfl, _, _, rfl, rfl, x, p, d, n + m, rfl, sqT_same s1 hx, hW, by omega, fun PL pws H2 s2 nPL hPL pp => ?_⟩
    have tb2 := tb.same s2
    obtain ⟨us, hL2, _, pu⟩ := tb2.ex
    have s12 := Same.trans s1 s2
    refine ⟨_, rfl, L, rfl, ⟨_, .inl (.inl hL2)⟩, fun D nD => ?_⟩
    have LD : L ≠ D := ne_of_none hL2 nD
    refine lc_list (xs := us) (fun i H' => SameBut D H2 H' ∧ ∃ rs, H' D = some (.lst rs) ∧ Paired (fun v row => ∃ a xs, v = .ref a ∧ a ≠ D ∧ H' a = some (.lst xs) ∧ Paired (PwT K p d H2) xs row) rs (rows.take i)) ⟨SameBut.upd, [], upd_same, .nil⟩ (fun i H' _ hP => .inl (.inl (hP.1 _ _ LD hL2))) (fun i y H3 hy hP => ?_) (fun H3 hP => ?_)
    · obtain ⟨sb, rs, hD, pr⟩ := hP
      obtain ⟨vr, evr, a, rfl, aL, a0, ha⟩ := paired_get pu hy
      rw [List.getElem?_map] at evr
      obtain ⟨row, erow, rfl⟩ := Option.map_eq_some_iff.mp evr
      obtain ⟨lr, br⟩ := tl row (List.mem_of_getElem? erow)
      have hi := (List.getElem?_eq_some_iff.mp erow).1
      have aD : a ≠ D := ne_of_none ha nD
      have ha3 := sb _ _ aD ha
      have s23 : Same H2 H3 := fun b o e => sb b o (ne_of_none e nD) e
      refine ⟨rfl, _, rfl, a, rfl, ⟨_, .inl (.inl ha3)⟩, fun D2 nD2 => ?_⟩
      have D2D : D ≠ D2 := ne_of_none hD nD2
      have aD2 : a ≠ D2 := ne_of_none ha3 nD2
      refine lc_list (xs := row.map fun k => V.int ((k : Nat) : Int)) (fun j H' => SameBut D2 H3 H' ∧ ∃ xs, H' D2 = some (.lst xs) ∧ Paired (PwT K p d H2) xs (row.take j)) ⟨SameBut.upd, [], upd_same, .nil⟩ (fun j H' _ hP => .inl (.inl (hP.1 _ _ aD2 ha3))) (fun j y H4 hy hP => ?_) (fun H4 hP => ?_)
      · obtain ⟨sb4, xs, hD2, px⟩ := hP
        rw [List.getElem?_map] at hy
        obtain ⟨k, ek, rfl⟩ := Option.map_eq_some_iff.mp hy
        have hj := (List.getElem?_eq_some_iff.mp ek).1
        have bk := br k (List.mem_of_getElem? ek)
        have s34 : Same H3 H4 := fun b o e => sb4 b o (ne_of_none e nD2) e
        have lp := pp.length
        rw [List.length_range] at lp
        obtain ⟨v, ev⟩ : ∃ v, pws[k]? = some v := ⟨pws[k]'(by omega), List.getElem?_eq_getElem (by omega)⟩
        obtain ⟨k', ek', hv⟩ := paired_get pp ev
        rw [List.getElem?_range (by omega)] at ek'
        obtain rfl := Option.some.inj ek'
        have lx := px.length
        rw [List.length_take] at lx
        refine ⟨rfl, _, rfl, _, rfl, PL, pws, (k : Int), v, rfl, rfl, .inl (.inl (s34 _ _ (s23 _ _ hPL))), atI_nat ev, xs, hD2, by omega, sb4.trans SameBut.upd, _, upd_same, ?_⟩
        rw [List.take_succ, ek]
        exact paired_add hv px
      · obtain ⟨sb4, xs, hD2, px⟩ := hP
        rw [List.length_map, List.take_length] at px
        have s34 : Same H3 H4 := fun b o e => sb4 b o (ne_of_none e nD2) e
        have lrs := pr.length
        rw [List.length_take] at lrs
        refine ⟨rs, s34 _ _ hD, by omega, fun b o nb e => by rw [upd_ne nb]; exact s34 _ _ (sb b o nb e), _, upd_same, ?_⟩
        rw [List.take_succ, erow]
        refine paired_add ⟨D2, xs, rfl, Ne.symm D2D, by rw [upd_ne (Ne.symm D2D)]; exact hD2, px⟩ (Paired.mapP pr fun _ _ ⟨a, xs, e, n1, h1, h2⟩ => ⟨a, xs, e, n1, by rw [upd_ne n1]; exact s34 _ _ h1, h2⟩)
    · obtain ⟨sb, rs, hD, pr⟩ := hP
      have lu := pu.length
      rw [List.length_map] at lu
      rw [lu, List.take_length] at pr
      have s23 : Same H2 H3 := fun b o e => sb b o (ne_of_none e nD) e
      exact q D rs H3 (Same.trans s12 s23) hD (Paired.mapP pr fun _ _ ⟨a, xs, e, _, h1, h2⟩ => ⟨a, xs, e, h1, Paired.mapP h2 fun _ _ h => h.same s23⟩)
end

/-! ### _law_world (seven kinds) -/
def wtab7 : List Int := [0, 0, 0, 2, 3, 5, 7]
theorem wtab7_in : ∀ k : Nat, k < 7 → wtab7.getD k 0 = 0 ∨ (wtab7.getD k 0 ≠ 0 ∧ inV (.int (wtab7.getD k 0)) (primes.map V.int) = true ∧ 2 ≤ wtab7.getD k 0 ∧ wtab7.getD k 0 ≤ 7) := by decide
section
variable {P : Program} {w : World} {K : PySem.W.Frag} {mg : Str → Option Value} {base : Heap}
def spLawWorld : Sp := fun vs H Q _ => ∃ (a : Addr) (ds : List Int), vs = [.ref a] ∧ H a = some (.lst (ds.map V.int)) ∧
  ∀ (p d : Int) (ds' : List Int) (x : Addr) (H' : Hp), SameBut a H H' → H' a = some (.lst (ds'.map V.int)) → H x = none → H' x = some (.tup [.int p, .int d]) → isW p d = true → d.natAbs ≤ 6 → Q (.ref x) H'
theorem ok_law_world {f a_law_next : Addr} {fd fd_law_next : FuncData} (F : Fun K "_law_world" "_law_world" s_law_world f fd) (z_int : mg "int" = none)
    (G_law_next : FnOk P w K mg base CX0 1 a_law_next fd_law_next ["draws"] spNext) (g_law_next : mg "_law_next" = some (.ref a_law_next)) (k_law_next : PySem.W.keepIn K (.ref a_law_next) = true) (b_law_next : Binds K fd_law_next ["draws"] []) :
    FnOk P w K mg base CX0 2 f fd ["draws"] spLawWorld := by
  refine F.ok sc_law_world (fun vs H Q E h => ?_) (fun cdv A outer s H vs Q E hr h => ?_)
  · obtain ⟨a, ds, rfl, _⟩ := h
    rfl
  · obtain ⟨a, ds, rfl, hL, q⟩ := h
    refine ⟨_, (pss_cons (ps_set (i := 1) sc_law_world.nd rfl (.inl rfl) (pe_ix ix_list (pe_lst (pa_cons pe_int (pa_cons pe_int (pa_cons pe_int (pa_cons pe_int (pa_cons pe_int (pa_cons pe_int (pa_cons pe_int pa_nil)))))))) (pe_op op_mod (pe_callTy call_int1 (by rfl) z_int boot_int (pa_cons (pe_call G_law_next (hr.mono (by decide)) rfl g_law_next k_law_next b_law_next .nil pass0 (pa_cons (pv 0) pa_nil)) pa_nil)) pe_int) (fun _ _ => rfl)))
  (pss_cons (ps_if (pt_cmpR op_eq (pv 1) pe_int (nomark _)) (pss_one (ps_ret (pe_tup (pa_cons pe_int (pa_cons (pe_op op_sub (pe_op op_mod (pe_callTy call_int1 (by rfl) z_int boot_int (pa_cons (pe_call G_law_next (hr.mono (by decide)) rfl g_law_next k_law_next b_law_next .nil pass0 (pa_cons (pv 0) pa_nil)) pa_nil)) pe_int) pe_int) pa_nil))))) pss_nil)
  (pss_one (ps_ret (pe_tup (pa_cons (pv 1) (pa_cons (pe_op op_mod (pe_callTy call_int1 (by rfl) z_int boot_int (pa_cons (pe_call G_law_next (hr.mono (by decide)) rfl g_law_next k_law_next b_law_next .nil pass0 (pa_cons (pv 0) pa_nil)) pa_nil)) (pv 1)) pa_nil))))))), ?_⟩
    refine ⟨(by show 7 ≤ sizeLine; decide), fun l nl => ?_⟩
    have hal : a ≠ l := ne_of_none hL nl
    refine ⟨_, rfl, a, ds, rfl, (by rw [upd_ne hal]; exact hL), fun n ds1 => ?_⟩
    have m8 := mod_lt8 n (show (0 : Int) < 7 by decide)
    refine .inl ⟨n, rfl, n, 7, rfl, rfl, (show (0 : Int) < 7 by decide), l, wtab7.map V.int, n % 7, .int (wtab7.getD (n % 7).toNat 0), rfl, rfl, .inl (.inl (by rw [upd_ne (Ne.symm hal), upd_same]; rfl)), at_tab m8.1 m8.2, ?_⟩
    have hw := wtab7_in (n % 7).toNat (by omega)
    generalize wtab7.getD (n % 7).toNat 0 = p at hw
    have s1 : SameBut a H (upd (upd H l (.lst [.int 0, .int 0, .int 0, .int 2, .int 3, .int 5, .int 7])) a (.lst (ds1.map V.int))) := (SameBut.new nl).trans SameBut.upd
    refine ⟨_, rfl, rfl, _, rfl, ite2 (fun e => ?_) (fun e => ?_)⟩
    · have e0 : p = 0 := V.int.inj (of_decide_eq_true e)
      refine ⟨_, rfl, a, ds1, rfl, upd_same, fun n2 ds2 => ?_⟩
      have m12 := mod_lt8 n2 (show (0 : Int) < 11 by decide)
      refine .inl ⟨n2, rfl, n2, 11, rfl, rfl, (show (0 : Int) < 11 by decide), _, 4, rfl, rfl, (by show 2 ≤ sizeLine; decide), fun r nr => ?_⟩
      have hra : a ≠ r := ne_of_none upd_same nr
      have nr' : H r = none := by
        rw [upd_ne (Ne.symm hra), upd_ne (Ne.symm hra)] at nr
        by_cases c : r = l
        · rw [c, upd_same] at nr
          cases nr
        · rwa [upd_ne c] at nr
      refine q 0 (n2 % 11 - 4) ds2 r _ ((s1.trans SameBut.upd).trans (SameBut.new nr)) (by rw [upd_ne hra, upd_same]) nr' upd_same (by unfold isW; rw [if_pos rfl, if_pos (by omega)]; exact decide_eq_true (by omega)) (by omega)
    · have e0 : p ≠ 0 := fun z => e (decide_eq_true (congrArg V.int z))
      obtain ⟨_, hin, h2, h7⟩ := hw.resolve_left e0
      have hpos : 0 < p := by omega
      refine ⟨_, rfl, _, rfl, a, ds1, rfl, upd_same, fun n2 ds2 => ?_⟩
      have mp := mod_lt8 n2 hpos
      refine .inl ⟨n2, rfl, _, rfl, n2, p, rfl, rfl, hpos, (by show 2 ≤ sizeLine; decide), fun r nr => ?_⟩
      have hra : a ≠ r := ne_of_none upd_same nr
      have nr' : H r = none := by
        rw [upd_ne (Ne.symm hra), upd_ne (Ne.symm hra)] at nr
        by_cases c : r = l
        · rw [c, upd_same] at nr
          cases nr
        · rwa [upd_ne c] at nr
      refine q p (n2 % p) ds2 r _ ((s1.trans SameBut.upd).trans (SameBut.new nr)) (by rw [upd_ne hra, upd_same]) nr' upd_same (by unfold isW; rw [if_neg e0, if_pos hin, if_pos mp.1]; exact decide_eq_true mp.2) (by omega)
end

section
variable {P : Program} {w : World} {K : PySem.W.Frag} {mg : Str → Option Value} {base : Heap}
/-! ### _law_family (parts twice), _law_shape -/
def spFamily : Sp := fun vs H Q _ => ∃ (r : Addr) (ds : List Int), vs = [.ref r] ∧ H r = some (.lst (ds.map V.int)) ∧ ∀ (z : Str) (ds' : List Int) (H' : Hp), z ∈ fams → SameBut r H H' → H' r = some (.lst (ds'.map V.int)) → Q (.str z) H'
theorem ok_law_family {f a_law_next : Addr} {fd fd_law_next : FuncData} (F : Fun K "_law_family" "_law_family" s_law_family f fd) (z_int : mg "int" = none)
    (G_law_next : FnOk P w K mg base CX0 1 a_law_next fd_law_next ["draws"] spNext) (g_law_next : mg "_law_next" = some (.ref a_law_next)) (k_law_next : PySem.W.keepIn K (.ref a_law_next) = true) (b_law_next : Binds K fd_law_next ["draws"] []) : FnOk P w K mg base CX0 2 f fd ["draws"] spFamily := by
  refine F.ok sc_law_family (fun vs H Q E h => ?_) (fun cdv A outer s H vs Q E hr h => ?_)
  · obtain ⟨r, ds, rfl, _⟩ := h
    rfl
  · obtain ⟨r, ds, rfl, hL, q⟩ := h
    refine ⟨_, (pss_one (ps_ret (pe_ix ix_list (pe_lst (pa_cons pe_str (pa_cons pe_str (pa_cons pe_str (pa_cons pe_str (pa_cons pe_str (pa_cons pe_str (pa_cons pe_str pa_nil)))))))) (pe_op op_mod (pe_callTy call_int1 (by rfl) z_int boot_int (pa_cons (pe_call G_law_next (hr.mono (by decide)) rfl g_law_next k_law_next b_law_next .nil pass0 (pa_cons (pv 0) pa_nil)) pa_nil)) pe_int) (fun _ _ => rfl)))), ?_⟩
    refine ⟨(by show 7 ≤ sizeLine; decide), fun p np => ?_⟩
    have nrp : r ≠ p := ne_of_none hL np
    refine ⟨_, rfl, r, ds, rfl, (by rw [upd_ne nrp]; exact hL), fun n0 ds0 => .inl ⟨n0, rfl, n0, 7, rfl, rfl, (show (0 : Int) < 7 by decide), ?_⟩⟩
    have m := mod_lt8 n0 (show (0 : Int) < 7 by decide)
    obtain ⟨k, hk, ek⟩ : ∃ k : Nat, k < 7 ∧ n0 % 7 = (k : Int) := ⟨(n0 % 7).toNat, by omega, by omega⟩
    dsimp only
    rw [ek]
    have go : ∀ z : Str, z ∈ fams → Q (.str z) (upd (upd H p (.lst [.str "threads", .str "loose", .str "pairs", .str "lonepairs", .str "even", .str "parts", .str "parts"])) r (.lst (ds0.map V.int))) := fun z mz => q z ds0 _ mz (fun b o nb hb => by rw [upd_ne nb, upd_ne (ne_of_none hb np)]; exact hb) upd_same
    obtain ⟨z, mz, ez⟩ : ∃ z : Str, z ∈ fams ∧ [V.str "threads", .str "loose", .str "pairs", .str "lonepairs", .str "even", .str "parts", .str "parts"][k]? = some (.str z) := by
      match k, hk with
      | 0, _ => exact ⟨fams[0]'(by decide), List.getElem_mem _, rfl⟩
      | 1, _ => exact ⟨fams[1]'(by decide), List.getElem_mem _, rfl⟩
      | 2, _ => exact ⟨fams[2]'(by decide), List.getElem_mem _, rfl⟩
      | 3, _ => exact ⟨fams[3]'(by decide), List.getElem_mem _, rfl⟩
      | 4, _ => exact ⟨fams[4]'(by decide), List.getElem_mem _, rfl⟩
      | 5, _ => exact ⟨fams[5]'(by decide), List.getElem_mem _, rfl⟩
      | 6, _ => exact ⟨fams[5]'(by decide), List.getElem_mem _, rfl⟩
    exact ⟨p, _, _, _, rfl, rfl, .inl (.inl (by rw [upd_ne (Ne.symm nrp), upd_same])), atI_nat ez, go z mz⟩
def spShape : Sp := fun vs H Q _ => ∃ (r : Addr) (ds : List Int), vs = [.ref r] ∧ H r = some (.lst (ds.map V.int)) ∧ ∀ (z : Str) (n m : Nat) (ds' : List Int) (L : Addr) (H' : Hp), z ∈ fams → n ≤ 3 → m ≤ 3 → n + m ≤ 4 → (z = "threads" → n = m) → SameBut r H H' → H' r = some (.lst (ds'.map V.int)) → H' L = some (.lst [.str z, .int (n : Int), .int (m : Int)]) → Q (.ref L) H'
theorem ok_law_shape {f : Addr} {fd : FuncData} (F : Fun K "_law_shape" "_law_shape" s_law_shape f fd) (z_int : mg "int" = none) (z_min : mg "min" = none)
    {a_law_next : Addr} {fd_law_next : FuncData} (G_law_next : FnOk P w K mg base CX0 1 a_law_next fd_law_next ["draws"] spNext) (g_law_next : mg "_law_next" = some (.ref a_law_next)) (k_law_next : PySem.W.keepIn K (.ref a_law_next) = true) (b_law_next : Binds K fd_law_next ["draws"] [])
    {a_law_family : Addr} {fd_law_family : FuncData} (G_law_family : FnOk P w K mg base CX0 2 a_law_family fd_law_family ["draws"] spFamily) (g_law_family : mg "_law_family" = some (.ref a_law_family)) (k_law_family : PySem.W.keepIn K (.ref a_law_family) = true) (b_law_family : Binds K fd_law_family ["draws"] []) : FnOk P w K mg base CX0 3 f fd ["draws"] spShape := by
  refine F.ok sc_law_shape (fun vs H Q E h => ?_) (fun cdv A outer s H vs Q E hr h => ?_)
  · obtain ⟨r, ds, rfl, _⟩ := h
    rfl
  · obtain ⟨r, ds, rfl, hL, q⟩ := h
    refine ⟨_, (pss_cons (ps_set (i := 1) sc_law_shape.nd rfl (.inl rfl) (pe_call G_law_family (hr.mono (by decide)) rfl g_law_family k_law_family b_law_family .nil pass0 (pa_cons (pv 0) pa_nil)))
  (pss_cons (ps_set (i := 2) sc_law_shape.nd rfl (.inl rfl) (pe_op op_mod (pe_callTy call_int1 (by rfl) z_int boot_int (pa_cons (pe_call G_law_next (hr.mono (by decide)) rfl g_law_next k_law_next b_law_next .nil pass0 (pa_cons (pv 0) pa_nil)) pa_nil)) pe_int))
  (pss_cons (ps_set (i := 3) sc_law_shape.nd rfl (.inl rfl) (pe_op op_mod (pe_callTy call_int1 (by rfl) z_int boot_int (pa_cons (pe_call G_law_next (hr.mono (by decide)) rfl g_law_next k_law_next b_law_next .nil pass0 (pa_cons (pv 0) pa_nil)) pa_nil)) pe_int))
  (pss_cons (ps_if (L2.PW.pt (pw_or (pt_cmpR op_gt (pe_op op_add (pv 2) (pv 3)) pe_int (nomark _)) (pw_or1 (pt_cmpR op_eq (pv 1) pe_str (nomark _))))) (pss_cons (ps_set (i := 3) sc_law_shape.nd rfl (.inl rfl) (pe_callB (call_min2 rfl) (by rfl) z_min boot_min (pa_cons (pv 2) (pa_cons (pe_op op_sub pe_int (pv 2)) pa_nil))))
  (pss_one (ps_set (i := 2) sc_law_shape.nd rfl (.inl rfl) (pv 3)))) pss_nil)
  (pss_one (ps_ret (pe_lst (pa_cons (pv 1) (pa_cons (pv 2) (pa_cons (pv 3) pa_nil)))))))))), ?_⟩
    refine ⟨_, rfl, r, ds, rfl, hL, fun z ds1 H1 mz sb1 hr1 => ?_⟩
    refine ⟨_, rfl, r, ds1, rfl, hr1, fun n0 ds2 => .inl ⟨n0, rfl, n0, 4, rfl, rfl, (show (0 : Int) < 4 by decide), ?_⟩⟩
    refine ⟨_, rfl, r, ds2, rfl, upd_same, fun m0 ds3 => .inl ⟨m0, rfl, m0, 4, rfl, rfl, (show (0 : Int) < 4 by decide), ?_⟩⟩
    obtain ⟨n, hn, en⟩ : ∃ k : Nat, k < 4 ∧ n0 % 4 = (k : Int) := ⟨(n0 % 4).toNat, by omega, by omega⟩
    obtain ⟨m, hm, em⟩ : ∃ k : Nat, k < 4 ∧ m0 % 4 = (k : Int) := ⟨(m0 % 4).toNat, by omega, by omega⟩
    dsimp only
    rw [en, em]
    have sb : SameBut r H (upd (upd H1 r (.lst (ds2.map V.int))) r (.lst (ds3.map V.int))) := fun b o nb e => by
      rw [upd_ne nb, upd_ne nb]
      exact sb1 b o nb e
    have fin : ∀ (a b : Nat), a ≤ 3 → b ≤ 3 → a + b ≤ 4 → (z = "threads" → a = b) → tRet (tLst (tCons (tVar 1) (tCons (tVar 2) (tCons (tVar 3) tNil)))) { nx := fun x H' => Q V.non H', rt := Q } [some (.ref r), some (.str z), some (.int (a : Int)), some (.int (b : Int))] (upd (upd H1 r (.lst (ds2.map V.int))) r (.lst (ds3.map V.int))) := fun a b ha hb hab hz => by
      refine ⟨_, rfl, _, rfl, _, rfl, (by show 3 ≤ sizeLine; decide), fun L nL => ?_⟩
      have rL : r ≠ L := fun e => by
        rw [e, upd_same] at nL
        exact nomatch nL
      exact q z a b ds3 L _ mz ha hb hab hz (sb.trans (SameBut.new nL)) (by rw [upd_ne rL, upd_same]) upd_same
    obtain ⟨k, hk, hkn⟩ : ∃ k : Nat, (if 4 - (n : Int) < (n : Int) then 4 - (n : Int) else (n : Int)) = (k : Int) ∧ k ≤ 2 := ⟨(if 4 - (n : Int) < (n : Int) then 4 - (n : Int) else (n : Int)).toNat, by split <;> omega, by split <;> omega⟩
    have then_ := fin k k (by omega) (by omega) (by omega) fun _ => rfl
    refine ⟨_, rfl, _, rfl, _, _, rfl, rfl, _, _, rfl, rfl, _, rfl, ite2 (fun e => iteT ⟨_, rfl, _, rfl, _, _, rfl, rfl, _, _, rfl, _, rfl, ?_⟩) (fun e => ⟨_, rfl, rfl, _, rfl, ite2 (fun e2 => ⟨_, rfl, _, rfl, _, _, rfl, rfl, _, _, rfl, _, rfl, ?_⟩) (fun e2 => ?_)⟩)⟩
    · rw [hk]
      exact then_
    · rw [hk]
      exact then_
    · have e : ¬ ((n : Int) + (m : Int) > 4) := fun h => e (decide_eq_true h)
      have e2 : ¬ z = "threads" := fun h => e2 (decide_eq_true (congrArg V.str h))
      exact fin n m (by omega) (by omega) (by omega) fun h => absurd h e2
end

/-! ### _law_times, _law_power -/
theorem pwN_zero {p d : Int} (h : isW p d = true) : pwN p d 0 = 1 := by
  unfold pwN
  by_cases c : p = 0
  · rw [if_pos c, Int.pow_zero]
  · rw [if_neg c, Int.pow_zero]
    exact Int.emod_eq_of_lt (by decide) (prime_pos (isW_prime h c).1).1
theorem pwN_succ (p d : Int) (k : Nat) : (if p = 0 then pwN p d k * d else pwN p d k * d % p) = pwN p d (k + 1) := by
  unfold pwN
  by_cases c : p = 0
  · rw [if_pos c, if_pos c, if_pos c, Int.pow_succ]
  · rw [if_neg c, if_neg c, if_neg c, Int.pow_succ, Int.mul_emod, Int.emod_emod, ← Int.mul_emod]
section
variable {P : Program} {w : World} {K : PySem.W.Frag} {mg : Str → Option Value} {base : Heap}
def spLTimes (K : PySem.W.Frag) : Sp := fun vs H Q _ => ∃ (x a b : Addr) (p d u s v t : Int), vs = [.ref x, .ref a, .ref b] ∧ SqT K H x [.int p, .int d] ∧ SqT K H a [.int u, .int s] ∧ SqT K H b [.int v, .int t] ∧ 0 ≤ p ∧ v.natAbs ≤ 1000 ∧ ∀ r, H r = none → Q (.ref r) (upd H r (.tup [.int (if p = 0 then u * v else u * v % p), .int 1]))
theorem ok_law_times {f : Addr} {fd : FuncData} (F : Fun K "_law_times" "_law_times" s_law_times f fd) (z_int : mg "int" = none) : FnOk P w K mg base CX0 1 f fd ["world", "x", "y"] (spLTimes K) := by
  refine F.ok sc_law_times (fun vs H Q E h => ?_) (fun cdv A outer s H vs Q E hr h => ?_)
  · obtain ⟨x, a, b, p, d, u, s, v, t, rfl, _⟩ := h
    rfl
  · obtain ⟨x, a, b, p, d, u, s, v, t, rfl, hx, ha, hb, p0, v6, q⟩ := h
    refine ⟨_, (pss_cons (ps_if (pt_cmpR op_gt (pe_ix ix_tup (pv 0) pe_int (fun _ _ => rfl)) pe_int (nomark _)) (pss_one (ps_ret (pe_tup (pa_cons (pe_op op_mod (pe_callTy call_int1 (by rfl) z_int boot_int (pa_cons (pe_op op_mul (pe_ix ix_tup (pv 1) pe_int (fun _ _ => rfl)) (pe_ix ix_tup (pv 2) pe_int (fun _ _ => rfl))) pa_nil)) (pe_ix ix_tup (pv 0) pe_int (fun _ _ => rfl))) (pa_cons pe_int pa_nil))))) pss_nil)
  (pss_one (ps_ret (pe_tup (pa_cons (pe_op op_mul (pe_ix ix_tup (pv 1) pe_int (fun _ _ => rfl)) (pe_ix ix_tup (pv 2) pe_int (fun _ _ => rfl))) (pa_cons pe_int pa_nil)))))), ?_⟩
    have cm : CMul u v := .inr ⟨by omega, by omega⟩
    refine ⟨_, rfl, x, _, 0, .int p, rfl, rfl, hx, rfl, _, _, rfl, rfl, _, rfl, ite2 (fun e => ?_) (fun e => ?_)⟩
    · have e : p > 0 := of_decide_eq_true e
      refine ⟨_, rfl, a, _, 0, .int u, rfl, rfl, ha, rfl, _, rfl, b, _, 0, .int v, rfl, rfl, hb, rfl, _, _, rfl, rfl, cm, .inl ⟨_, rfl, _, rfl, x, _, 0, .int p, rfl, rfl, hx, rfl, _, _, rfl, rfl, e, (by show 2 ≤ sizeLine; decide), fun r nr => ?_⟩⟩
      have q := q r nr
      rw [if_neg (by omega)] at q
      exact q
    · have e : ¬ p > 0 := fun h => e (decide_eq_true h)
      refine ⟨_, rfl, a, _, 0, .int u, rfl, rfl, ha, rfl, _, rfl, b, _, 0, .int v, rfl, rfl, hb, rfl, _, _, rfl, rfl, cm, (by show 2 ≤ sizeLine; decide), fun r nr => ?_⟩
      have q := q r nr
      rw [if_pos (by omega)] at q
      exact q
def spLPower (K : PySem.W.Frag) : Sp := fun vs H Q _ => ∃ (x : Addr) (p d : Int) (k : Nat), vs = [.ref x, .int (k : Int)] ∧ SqT K H x [.int p, .int d] ∧ isW p d = true ∧ k ≤ 1000 ∧ ∀ (r : Addr) (H' : Hp), Same H H' → SqT K H' r [.int (pwN p d k), .int 1] → Q (.ref r) H'
theorem ok_law_power {f : Addr} {fd : FuncData} (F : Fun K "_law_power" "_law_power" s_law_power f fd) (z_range : mg "range" = none)
    {a_law_times : Addr} {fd_law_times : FuncData} (G_law_times : FnOk P w K mg base CX0 1 a_law_times fd_law_times ["world", "x", "y"] (spLTimes K)) (g_law_times : mg "_law_times" = some (.ref a_law_times)) (k_law_times : PySem.W.keepIn K (.ref a_law_times) = true) (b_law_times : Binds K fd_law_times ["world", "x", "y"] []) : FnOk P w K mg base CX0 2 f fd ["world", "count"] (spLPower K) := by
  refine F.ok sc_law_power (fun vs H Q E h => ?_) (fun cdv A outer s H vs Q E hr h => ?_)
  · obtain ⟨x, p, d, k, rfl, _⟩ := h
    rfl
  · obtain ⟨x, p, d, k, rfl, hx, hW, hk, q⟩ := h
    refine ⟨_, (pss_cons (ps_set (i := 2) sc_law_power.nd rfl (.inl rfl) (pe_tup (pa_cons pe_int (pa_cons pe_int pa_nil))))
  (pss_cons (ps_for PassesOwn.never rfl (pi_range1 rfl z_range (pa_cons (pv 1) pa_nil)) (pg_name (i := 3) sc_law_power.nd rfl (.inl rfl)) (pss_one (ps_set (i := 2) sc_law_power.nd rfl (.inl rfl) (pe_call G_law_times (hr.mono (by decide)) rfl g_law_times k_law_times b_law_times .nil pass0 (pa_cons (pv 0) (pa_cons (pv 2) (pa_cons (pe_tup (pa_cons (pe_ix ix_tup (pv 0) pe_int (fun _ _ => rfl)) (pa_cons pe_int pa_nil))) pa_nil)))))))
  (pss_one (ps_ret (pv 2))))), ?_⟩
    have szl : 20000 ≤ sizeLine := by decide
    obtain ⟨_, hd⟩ := isW_cases hW
    have p0 : 0 ≤ p := by
      by_cases c : p = 0
      · omega
      · have := prime_pos (isW_prime hW c).1
        omega
    refine ⟨(by show 2 ≤ sizeLine; decide), fun r0 nr0 => ?_⟩
    refine ⟨_, rfl, (k : Int), rfl, by omega, by omega, for_range (lo := 0) (n := k) (fun i σ H' => ∃ (r : Addr) (v3 : Option V), σ = [some (.ref x), some (.int (k : Int)), some (.ref r), v3] ∧ Same H H' ∧ SqT K H' r [.int (pwN p d i), .int 1])
      ⟨r0, none, rfl, same_upd nr0, by rw [pwN_zero hW]; exact .inl (.inl upd_same)⟩ (fun i σ H1 hi hP => ?_) (fun σ H1 hP => ?_)⟩
    · obtain ⟨r, v3, rfl, s1, hr1⟩ := hP
      have hx1 := sqT_same s1 hx
      refine ⟨_, rfl, _, rfl, _, rfl, x, _, 1, .int d, rfl, rfl, hx1, rfl, (by show 2 ≤ sizeLine; decide), fun q1 nq1 => ?_⟩
      have w1 := same_upd (o := .tup [.int d, .int 1]) nq1
      refine ⟨x, r, q1, p, d, pwN p d i, 1, d, 1, rfl, sqT_same w1 hx1, sqT_same w1 hr1, .inl (.inl upd_same), p0, by omega, fun q2 nq2 => ?_⟩
      refine ⟨_, _, rfl, Same.trans (Same.trans s1 w1) (same_upd nq2), ?_⟩
      rw [pwN_succ]
      exact .inl (.inl upd_same)
    · obtain ⟨r, v3, rfl, s1, hr1⟩ := hP
      exact ⟨_, rfl, q r H1 s1 hr1⟩
/-! ### _law_joined -/
def prs (bs : List (List Int)) : List (Nat × Nat) := bs.flatMap fun b => (b.drop 1).map fun q => ((co b 0).toNat, q.toNat)
def ljo (N : Nat) (bs cs : List (List Int)) : Nat := cnt (ujP (labL bs N) (prs cs))
theorem prs_len {c : Nat} : ∀ {bs : List (List Int)}, bs.length ≤ c → (∀ b ∈ bs, b.length ≤ 13) → (prs bs).length ≤ 13 * c
  | [], _, _ => Nat.zero_le _
  | b :: bs, h, hb => by
    obtain ⟨c, rfl⟩ : ∃ d, c = d + 1 := ⟨c - 1, by rw [List.length_cons] at h; omega⟩
    have := prs_len (c := c) (bs := bs) (by rw [List.length_cons] at h; omega) fun x hx => hb x (.tail _ hx)
    have := hb b (.head _)
    show (List.flatMap _ (b :: bs)).length ≤ _
    rw [List.flatMap_cons, List.length_append, List.length_map, List.length_drop]
    unfold prs at this
    unfold prs at *
    omega
theorem cut1f (l : List Int) : cutV (l.map V.int) (some 1) none = (l.drop 1).map V.int := by
  show ((l.map V.int).drop (HT.sIx (l.map V.int).length 0 (some ((1 : Nat) : Int)))).take (HT.sIx (l.map V.int).length (l.map V.int).length none - HT.sIx (l.map V.int).length 0 (some ((1 : Nat) : Int))) = _
  rw [HT.sIx_none, HT.sIx_nat, List.length_map, ← List.map_drop, List.take_of_length_le (by rw [List.length_map, List.length_drop]; omega)]
  congr 1
  by_cases c : 1 ≤ l.length
  · rw [Nat.min_eq_left c]
  · rw [Nat.min_eq_right (by omega), List.drop_of_length_le (by omega), List.drop_of_length_le (by omega)]
def spLJoined : Sp := fun vs H Q _ => ∃ (v1 v2 : V) (n m : Int) (bs cs : List (List Int)), vs = [v1, v2] ∧ DGv H v1 n m bs ∧ DGv H v2 n m cs ∧ IsDg n m bs ∧ IsDg n m cs ∧ bs.length ≤ 1000 ∧ ∀ H', Same H H' → Q (.int (ljo (n + m).toNat bs cs : Nat)) H'
theorem ok_law_joined {f : Addr} {fd : FuncData} (F : Fun K "_law_joined" "_law_joined" s_law_joined f fd)
    {a_law_kinds : Addr} {fd_law_kinds : FuncData} (G_law_kinds : FnOk P w K mg base CX0 1 a_law_kinds fd_law_kinds ["marks"] (spKindsN K)) (g_law_kinds : mg "_law_kinds" = some (.ref a_law_kinds)) (k_law_kinds : PySem.W.keepIn K (.ref a_law_kinds) = true) (b_law_kinds : Binds K fd_law_kinds ["marks"] [])
    {a_law_glued : Addr} {fd_law_glued : FuncData} (G_law_glued : FnOk P w K mg base CX0 1 a_law_glued fd_law_glued ["marks", "pairs"] (spGlued K)) (g_law_glued : mg "_law_glued" = some (.ref a_law_glued)) (k_law_glued : PySem.W.keepIn K (.ref a_law_glued) = true) (b_law_glued : Binds K fd_law_glued ["marks", "pairs"] [])
    {a_law_marks : Addr} {fd_law_marks : FuncData} (G_law_marks : FnOk P w K mg base CX0 1 a_law_marks fd_law_marks ["diagram"] spMarks) (g_law_marks : mg "_law_marks" = some (.ref a_law_marks)) (k_law_marks : PySem.W.keepIn K (.ref a_law_marks) = true) (b_law_marks : Binds K fd_law_marks ["diagram"] []) : FnOk P w K mg base CX0 2 f fd ["one", "other"] spLJoined := by
  refine F.ok sc_law_joined (fun vs H Q E h => ?_) (fun cdv A outer s H vs Q E hr h => ?_)
  · obtain ⟨v1, v2, n, m, bs, cs, rfl, _⟩ := h
    rfl
  · obtain ⟨v1, v2, n, m, bs, cs, rfl, d1, d2, g1, g2, lb, q⟩ := h
    refine ⟨_, (pss_cons (ps_set (i := 2) sc_law_joined.nd rfl (.inl rfl) (pe_lst pa_nil))
  (pss_cons (ps_for PassesOwn.never rfl (pi_tup (pe_ix ix_tup (pv 1) pe_int (fun _ _ => rfl))) (pg_name (i := 3) sc_law_joined.nd rfl (.inr rfl)) (pss_one (ps_set (i := 2) sc_law_joined.nd rfl (.inl rfl) (pe_op op_cat (pv 2) (pe_lc (own := [("point", 4)]) rfl sc_law_joined.nd (pi_tup (pe_slice sl_tup (pv 3) (po_some pe_int) po_none)) (blkOk_by (N := ["one", "other", "pairs", "block", "point"]) (sc := defScope s_law_joined) (by first | decide +kernel | rfl)) (fun _ _ _ _ _ => (pg_name (i := 4) sc_law_joined.nd rfl (.inl rfl))) (fun _ _ _ _ _ => pts_nil) (fun _ _ _ _ _ => (pe_tup (pa_cons (pe_ix (ix_tupK (K := K) rfl) (pv 3) pe_int (fun _ _ => rfl)) (pa_cons (pv 4) pa_nil)))))))))
  (pss_one (ps_ret (pe_call G_law_kinds (hr.mono (by decide)) rfl g_law_kinds k_law_kinds b_law_kinds .nil pass0 (pa_cons (pe_call G_law_glued (hr.mono (by decide)) rfl g_law_glued k_law_glued b_law_glued .nil pass0 (pa_cons (pe_call G_law_marks (hr.mono (by decide)) rfl g_law_marks k_law_marks b_law_marks .nil pass0 (pa_cons (pv 0) pa_nil)) (pa_cons (pv 2) pa_nil))) pa_nil)))))), ?_⟩
    have szl : 20000 ≤ sizeLine := by decide
    obtain ⟨t, vb, rfl, ht, tb, ts, rfl, htb, pr⟩ := id d2
    have few := g2.few
    have few1 := few.1
    have fb : ∀ {b : List Int}, b ∈ cs → ∀ {p : Int}, p ∈ b → 0 ≤ p ∧ p < n + m := fun h _ h2 => dg_pt g2 h h2
    have hs := siz_iff.mp g1.sz
    refine ⟨(by show 0 ≤ sizeLine; decide), fun D nD => ?_⟩
    have w0 := same_upd (o := .lst []) nD
    refine ⟨_, rfl, t, _, 2, .ref tb, rfl, rfl, .inl (.inl (w0 _ _ ht)), rfl, tb, rfl, ⟨_, .inl (.inl (w0 _ _ htb))⟩, for_it walk_tup (fun i σ H' => ∃ (L : Addr) (us : List V) (v3 v4 : Option V), σ = [some v1, some (.ref t), some (.ref L), v3, v4] ∧ Same H H' ∧ H' L = some (.lst us) ∧ Paired (LnkW H') us (prs (cs.take i)))
      ⟨D, [], none, none, rfl, w0, upd_same, .nil⟩ (fun i σ H' _ ⟨_, _, _, _, _, s', _⟩ => .inl (.inl (s' _ _ htb))) (fun i y σ H1 H1' hi hP hy => ?_) (fun σ H1 hP => ?_)⟩
    · obtain ⟨L, us, v3, v4, rfl, s1, hL, pu⟩ := hP
      obtain ⟨e0, hy⟩ := hy
      subst e0
      obtain ⟨b, eb, a, rfl, ha⟩ := tt_get pr hy
      have mb := List.mem_of_getElem? eb
      have ne := g2.ne b mb
      have lb := few.2 b mb
      have ha1 := s1 _ _ ha
      have l0 : 0 < b.length := List.length_pos_iff.mpr ne
      refine ⟨_, rfl, _, rfl, 1, rfl, a, _, rfl, .inl (.inl ha1), (by rw [List.length_map]; show ¬ (HT.sIx b.length 0 (some ((1 : Nat) : Int)) = 0 ∧ _); rw [HT.sIx_nat]; omega), fun p np => ?_⟩
      have w2 := same_upd (o := .tup (cutV (b.map V.int) (some 1) none)) np
      have hp2 : upd H1' p (.tup (cutV (b.map V.int) (some 1) none)) p = some (.tup ((b.drop 1).map V.int)) := by rw [upd_same]; exact congrArg (fun z => some (HO.tup z)) (cut1f b)
      have s2 := Same.trans s1 w2
      have hL2 := w2 _ _ hL
      have pu2 := Paired.mapP pu fun _ _ h => LnkW.same w2 h
      have ha2 := w2 _ _ ha1
      clear pu hL ha1
      revert hp2 s2 hL2 pu2 ha2 w2
      generalize upd H1' p (.tup (cutV (b.map V.int) (some 1) none)) = H2
      intro w2 hp2 s2 hL2 pu2 ha2
      refine ⟨p, rfl, ⟨_, .inl (.inl hp2)⟩, fun G nG => ?_⟩
      have keep : ∀ {H' : Hp} {a : Addr} {o : HO}, SameBut G H2 H' → H2 a = some o → H' a = some o := fun sb e => sb _ _ (ne_of_none e nG) e
      refine lc_it walk_tup (fun j H5 => SameBut G H2 H5 ∧ ∃ es, H5 G = some (.lst es) ∧ Paired (LnkW H5) es (((b.drop 1).take j).map fun q => ((co b 0).toNat, q.toNat))) ⟨SameBut.upd, [], upd_same, .nil⟩ (fun j H' _ hP => .inl (.inl (keep hP.1 hp2))) (fun j y H6 H7 hj hP hy => ?_) (fun H5 hP => ?_)
      · obtain ⟨sb, es, hG, pe⟩ := hP
        obtain ⟨e0, hy⟩ := hy
        subst e0
        rw [List.length_map] at hj
        have ez : ((b.drop 1).map V.int)[j]? = some (.int (co (b.drop 1) j)) := by rw [List.getElem?_map, co_get hj]; rfl
        obtain rfl : V.int (co (b.drop 1) j) = y := Option.some.inj (ez.symm.trans hy)
        have b0 := fb mb (co_mem l0)
        have bj := fb mb (List.mem_of_mem_drop (co_mem hj))
        refine ⟨rfl, _, rfl, a, _, 0, .int (co b 0), rfl, rfl, .inl (.inl (keep sb ha2)), at_co l0, _, rfl, (by show 2 ≤ sizeLine; decide), fun r nr => ?_⟩
        have w3 := same_upd (o := .tup [.int (co b 0), .int (co (b.drop 1) j)]) nr
        have Gr : G ≠ r := ne_of_none hG nr
        have le : es.length ≤ j := by rw [pe.length, List.length_map, List.length_take]; omega
        have ldr : (b.drop 1).length ≤ b.length := by rw [List.length_drop]; omega
        have elk : (b.drop 1)[j]? = some (co (b.drop 1) j) := co_get hj
        refine ⟨es, w3 _ _ hG, by omega, fun c o nc e => by rw [upd_ne nc]; exact w3 _ _ (sb c o nc e), _, upd_same, ?_⟩
        rw [List.take_succ, elk, show (some (co (b.drop 1) j)).toList = [co (b.drop 1) j] from rfl, List.map_append]
        refine paired_add ⟨r, rfl, ?_⟩ (Paired.mapP pe fun _ _ ⟨t, e, h⟩ => ⟨t, e, by rw [upd_ne (fun z => by rw [z, hG] at h; exact nomatch h)]; exact w3 _ _ h⟩)
        rw [upd_ne (Ne.symm Gr), upd_same]
        show some (HO.tup [V.int (co b 0), V.int (co (b.drop 1) j)]) = some (HO.tup [V.int (((co b 0).toNat : Nat) : Int), V.int (((co (b.drop 1) j).toNat : Nat) : Int)])
        rw [Int.toNat_of_nonneg b0.1, Int.toNat_of_nonneg bj.1]
      · obtain ⟨sb, es, hG, pe⟩ := hP
        rw [List.length_map, List.take_length] at pe
        have s25 : Same H2 H5 := fun b o e => sb b o (ne_of_none e nG) e
        have lu := pu2.length
        have lp : (prs (cs.take i)).length ≤ 13 * 12 := prs_len (by rw [List.length_take]; omega) fun c hc => few.2 c (List.mem_of_mem_take hc)
        have le := pe.length
        have ldr : (b.drop 1).length ≤ b.length := by rw [List.length_drop]; omega
        rw [List.length_map] at le
        refine ⟨L, G, us, es, rfl, rfl, s25 _ _ hL2, hG, by omega, fun D3 nD3 => ?_⟩
        have w6 := same_upd (o := .lst (us ++ es)) nD3
        have s56 := Same.trans s25 w6
        refine ⟨D3, us ++ es, _, _, rfl, Same.trans s2 s56, upd_same, ?_⟩
        rw [List.take_succ, eb]
        show Paired _ _ (prs (cs.take i ++ [b]))
        unfold prs
        rw [List.flatMap_append]
        refine paired_app (Paired.mapP pu2 fun _ _ h => LnkW.same s56 h) ?_
        rw [List.flatMap_cons, List.flatMap_nil, List.append_nil]
        exact Paired.mapP pe fun _ _ h => LnkW.same w6 h
    · obtain ⟨L, us, v3, v4, rfl, s1, hL, pu⟩ := hP
      rw [pr.length, List.take_length] at pu
      refine ⟨_, rfl, _, n, m, bs, rfl, d1.same s1, g1, lb, fun D2 H2 s2 nD2 hD2 => ?_⟩
      refine ⟨_, rfl, D2, L, labL bs (n + m).toNat, us, prs cs, rfl, .inl (.inl hD2), s2 _ _ hL, Paired.mapP pu fun _ _ h => h.same s2, ?_, ?_, fun D3 H3 s3 hD3 => ?_⟩
      · intro e he
        rw [labL_len]
        obtain ⟨b, hb, h⟩ := List.mem_flatMap.mp he
        obtain ⟨p, hp, rfl⟩ := List.mem_map.mp h
        have b0 := fb hb (co_mem (List.length_pos_iff.mpr (g2.ne b hb)))
        have bp := fb hb (List.mem_of_mem_drop hp)
        exact ⟨by show (co b 0).toNat < _; omega, by show p.toNat < _; omega⟩
      · rw [labL_len]
        omega
      · exact ⟨D3, _, rfl, hD3, by rw [ujP_len, labL_len]; omega, fun H4 s4 => q H4 (Same.trans s1 (Same.trans s2 (Same.trans s3 s4)))⟩
end

/-! ### the pieces of two diagrams laid upon each other: three ways to count them -/
theorem blk_len (l : List Int) : (blocksOf l).length = cnt l := by
  unfold blocksOf
  rw [List.length_map]
  rfl
theorem jm_bd (N : Nat) (l lo : List Int) : Bd N (Jm N l lo) := fun _ _ h => ⟨h.1, h.2.1⟩
theorem jm_sym {N : Nat} {J l lo : List Int} (k : Ks N J (Jm N l lo)) : Ks N J (Jm N lo l) := k.congr (jm_bd N lo l) (fun _ _ h => .ed ⟨h.1, h.2.1, h.2.2.symm⟩) (fun _ _ h => .ed ⟨h.1, h.2.1, h.2.2.symm⟩)
theorem cnt_ks {N : Nat} {a b : List Int} {E : Nat → Nat → Prop} (x : Ks N a E) (y : Ks N b E) : cnt a = cnt b := by
  rw [← blk_len, ← blk_len, (Ks.ker x y).blocks]
theorem mem_prs {cs : List (List Int)} {i j : Nat} : (i, j) ∈ prs cs ↔ GE cs i j := by
  unfold prs GE
  rw [List.mem_flatMap]
  refine ⟨fun ⟨b, hb, h⟩ => ?_, fun ⟨b, hb, p, hp, e1, e2⟩ => ⟨b, hb, List.mem_map.mpr ⟨p, hp, by rw [e1, e2]⟩⟩⟩
  obtain ⟨p, hp, e⟩ := List.mem_map.mp h
  exact ⟨b, hb, p, hp, (congrArg Prod.fst e).symm, (congrArg Prod.snd e).symm⟩
theorem ks_ljo {N : Nat} {l lo : List Int} (hl : l.length = N) (ho : lo.length = N) : Ks N (ujP (labL (blocksOf l) N) (prs (blocksOf lo))) (Jm N l lo) := by
  have k0 := ks_marks (labL (blocksOf l) N)
  rw [labL_len] at k0
  have k1 := ks_ujP (prs (blocksOf lo)) _ _ (fun e he => by
    obtain ⟨a, b, _⟩ := blocks_ge _ _ (mem_prs.mp he)
    omega) k0
  refine k1.congr (jm_bd N l lo) (fun i j h => ?_) (fun i j h => ?_)
  · rcases h with ⟨a, b, c⟩ | h
    · exact .ed ⟨a, b, .inl ((lab_ker hl a b).mp c)⟩
    · obtain ⟨a, b, c⟩ := blocks_ge _ _ (mem_prs.mp h)
      exact .ed ⟨by omega, by omega, .inr c⟩
  · obtain ⟨a, b, c | c⟩ := h
    · exact .ed (.inl ⟨a, b, (lab_ker hl a b).mpr c⟩)
    · exact (ge_blocks (by omega) (by omega) c).mono fun i j h => .ed (.inr (mem_prs.mpr h))
theorem ks_jpc {N : Nat} {l lo : List Int} (hl : l.length = N) (ho : lo.length = N) : Ks N (pcs N (blocksOf l ++ blocksOf lo)) (Jm N l lo) := by
  have g1 := blocks_gbd l
  have g2 := blocks_gbd lo
  rw [hl] at g1
  rw [ho] at g2
  have k1 := ks_pcs (N := N) (gs := blocksOf l ++ blocksOf lo) fun g hg => (List.mem_append.mp hg).elim (g1 g) (g2 g)
  refine k1.congr (jm_bd N l lo) (fun i j h => ?_) (fun i j h => ?_)
  · obtain ⟨g, hg, p, hp, e⟩ := h
    rcases List.mem_append.mp hg with hg | hg
    · obtain ⟨a, b, c⟩ := blocks_ge i j ⟨g, hg, p, hp, e⟩
      exact .ed ⟨by omega, by omega, .inl c⟩
    · obtain ⟨a, b, c⟩ := blocks_ge i j ⟨g, hg, p, hp, e⟩
      exact .ed ⟨by omega, by omega, .inr c⟩
  · obtain ⟨a, b, c | c⟩ := h
    · exact (ge_blocks (by omega) (by omega) c).mono fun i j ⟨g, hg, p, hp, e⟩ => .ed ⟨g, List.mem_append_left _ hg, p, hp, e⟩
    · exact (ge_blocks (by omega) (by omega) c).mono fun i j ⟨g, hg, p, hp, e⟩ => .ed ⟨g, List.mem_append_right _ hg, p, hp, e⟩
theorem jpc_ljo {N : Nat} {l lo : List Int} (hl : l.length = N) (ho : lo.length = N) : jpc N (blocksOf l) (blocksOf lo) = ljo N (blocksOf l) (blocksOf lo) := cnt_ks (ks_jpc hl ho) (ks_ljo hl ho)
theorem jpc_sym {N : Nat} {l lo : List Int} (hl : l.length = N) (ho : lo.length = N) : jpc N (blocksOf l) (blocksOf lo) = jpc N (blocksOf lo) (blocksOf l) := cnt_ks (ks_jpc hl ho) (jm_sym (ks_jpc ho hl))
/-- the law's table of the diagrams in a list -/
def tabL (N : Nat) (ls : List (List (List Int))) : List (List Nat) := ls.map fun a => ls.map fun b => ljo N a b
theorem tabN_L {z : Str} {n m : Nat} (hb : ∀ bs ∈ listF z n m, ∃ l : List Int, bs = blocksOf l ∧ l.length = n + m) : tabN z n m = tabL (n + m) (listF z n m) := by
  unfold tabN tabL
  generalize listF z n m = ls at *
  have at_ : ∀ a, a < ls.length → ∃ l : List Int, ls.getD a [] = blocksOf l ∧ l.length = n + m := fun a ha => by
    rw [List.getD_eq_getElem?_getD, List.getElem?_eq_getElem ha]
    exact hb _ (List.getElem_mem ha)
  refine List.ext_getElem (by rw [List.length_map, List.length_map, List.length_range]) fun a h1 h2 => ?_
  rw [List.length_map, List.length_range] at h1
  rw [List.getElem_map, List.getElem_map, List.getElem_range]
  refine List.ext_getElem (by rw [List.length_map, List.length_map, List.length_range]) fun b h3 h4 => ?_
  rw [List.length_map, List.length_range] at h3
  rw [List.getElem_map, List.getElem_map, List.getElem_range]
  have ea : ls[a] = ls.getD a [] := by rw [List.getD_eq_getElem?_getD, List.getElem?_eq_getElem h1]; rfl
  have eb : ls[b] = ls.getD b [] := by rw [List.getD_eq_getElem?_getD, List.getElem?_eq_getElem h3]; rfl
  refine Eq.trans ?_ (congr (congrArg (ljo (n + m)) ea.symm) eb.symm)
  obtain ⟨x, ex, lx⟩ := at_ a h1
  obtain ⟨y, ey, ly⟩ := at_ b h3
  rw [← show jpc (n + m) (ls.getD a []) (ls.getD b []) = ljo (n + m) (ls.getD a []) (ls.getD b []) from by rw [ex, ey]; exact jpc_ljo lx ly]
  by_cases c : b ≤ a
  · rw [Nat.max_eq_left c, Nat.min_eq_right c]
  · rw [Nat.max_eq_right (by omega), Nat.min_eq_left (by omega), ex, ey]
    exact jpc_sym ly lx
theorem ov_ov {n m : Nat} {l : List Int} (h : l.length = n + m) : ovL m (ovL n l) = l := by
  have e : (l.drop n).length = m := by rw [List.length_drop]; omega
  show (l.drop n ++ l.take n).drop m ++ (l.drop n ++ l.take n).take m = l
  rw [List.drop_left' e, List.take_left' e, List.take_append_drop]
theorem clos_val {n : Nat} {S : List Int} : hid (endM n n n S) (endS n n n S) = cnt (endM n n n S) := by
  have e : endS n n n S = [] := by
    unfold endS
    rw [Nat.sub_self, List.take_zero, List.take_zero]
    rfl
  rw [e, cnt_hid]
theorem jpc_put {n m : Nat} {l1 l2 : List Int} (h1 : l1.length = n + m) (h2 : l2.length = n + m) :
    hid (putM n m n l1 (ovL n l2)) (putS n m n l1 (ovL n l2)) + hid (endM n n n (putS n m n l1 (ovL n l2))) (endS n n n (putS n m n l1 (ovL n l2))) = jpc (n + m) (blocksOf l1) (blocksOf l2) := by
  rw [clos_val]
  exact pieces_of h1 (by rw [ovL_len (by omega)]; omega) (by rw [ov_ov h2]; exact ks_jpc h1 h2)

section
variable {P : Program} {w : World} {K : PySem.W.Frag} {mg : Str → Option Value} {base : Heap}
/-! ### _law_kind -/
theorem fl_pos {z x : Str} {l : List Str} (h : x = z) : ((l ++ [x]).filter fun t => decide (t = z)).map V.str = (l.filter fun t => decide (t = z)).map V.str ++ [.str x] := by
  rw [List.filter_append, List.map_append, List.filter_cons, decide_eq_true h]
  rfl
theorem fl_neg {z x : Str} {l : List Str} (h : x ≠ z) : ((l ++ [x]).filter fun t => decide (t = z)).map V.str = (l.filter fun t => decide (t = z)).map V.str := by
  rw [List.filter_append, List.filter_cons, decide_eq_false h]
  exact congrArg _ (List.append_nil _)
theorem fl_len (z : Str) (l : List Str) : ((l.filter fun t => decide (t = z)).map V.str).length ≤ l.length := by
  rw [List.length_map]
  exact List.length_filter_le _ _
/-- what an error class must say here: its name is z -/
structure KindE (K : PySem.W.Frag) (CE CW CF CD X_NotNumber CB CT D : Addr) (z : Str) : Prop where
  C : ExcC K D
  e : PySem.W.kitOne K (.ref D) (.ref CE) = some true
  n : z ∈ (["world", "family", "diagram", "value", "number", "large"] : List Str)
  k0 : PySem.W.kitOne K (.ref D) (.ref CW) = some (decide (("world" : Str) = z))
  k1 : PySem.W.kitOne K (.ref D) (.ref CF) = some (decide (("family" : Str) = z))
  k2 : PySem.W.kitOne K (.ref D) (.ref CD) = some (decide (("diagram" : Str) = z))
  k3 : PySem.W.kitOne K (.ref D) (.ref X_NotNumber) = some (decide (("value" : Str) = z))
  k4 : PySem.W.kitOne K (.ref D) (.ref CB) = some (decide (("number" : Str) = z))
  k5 : PySem.W.kitOne K (.ref D) (.ref CT) = some (decide (("large" : Str) = z))
def spLErr (K : PySem.W.Frag) (CE CW CF CD X_NotNumber CB CT : Addr) : Addr → Value → Option Addr → Sp := fun a cls d vs H Q _ => ∃ D z, cls = .ref D ∧ d = none ∧ vs = [.ref a] ∧ KindE K CE CW CF CD X_NotNumber CB CT D z ∧ ∀ H', Same H H' → Q (.str (("!" : Str) ++ z)) H'
theorem ok_law_kind {f CE CW CF CD X_NotNumber CB CT : Addr} {fd : FuncData} (F : Fun K "_law_kind" "_law_kind" s_law_kind f fd) (m_WorthError : mg "WorthError" = some (.ref CE)) (m_NotWorld : mg "NotWorld" = some (.ref CW)) (m_NotFamily : mg "NotFamily" = some (.ref CF)) (m_NotDiagram : mg "NotDiagram" = some (.ref CD)) (m_NotNumber : mg "NotNumber" = some (.ref X_NotNumber)) (m_BadNumber : mg "BadNumber" = some (.ref CB)) (m_TooLarge : mg "TooLarge" = some (.ref CT)) (z_isinstance : mg "isinstance" = none) (z_len : mg "len" = none) :
    FnE P w K mg base 1 f fd ["error"] (spLErr K CE CW CF CD X_NotNumber CB CT) := by
  have r_WorthError : RelV (.ref CE) (.ref CE) := rfl
  have r_NotWorld : RelV (.ref CW) (.ref CW) := rfl
  have r_NotFamily : RelV (.ref CF) (.ref CF) := rfl
  have r_NotDiagram : RelV (.ref CD) (.ref CD) := rfl
  have r_NotNumber : RelV (.ref X_NotNumber) (.ref X_NotNumber) := rfl
  have r_BadNumber : RelV (.ref CB) (.ref CB) := rfl
  have r_TooLarge : RelV (.ref CT) (.ref CT) := rfl
  refine F.okE sc_law_kind (fun a cls d vs H Q E h => ?_) (fun cdv A outer s H vs Q E a oe cls d hz hf hr h => ?_)
  · obtain ⟨D, z, _, _, rfl, _⟩ := h
    rfl
  · obtain ⟨D, z, rfl, rfl, rfl, k, q⟩ := h
    refine ⟨_, (pss_cons (ps_set (i := 1) sc_law_kind.nd rfl (.inl rfl) (pe_lst pa_nil))
  (Evl.pss_cut (ps_if (pt_val (pe_callB (call_isEH hz hf) (by rfl) z_isinstance boot_isinstance (pa_cons (pv 0) (pa_cons (pe_glob rfl m_NotWorld r_NotWorld) pa_nil)))) (pss_one (ps_expr (pe_bm PySem.F.plainAttrs_list PySem.F.slot_list_append PySem.F.type_list_append mt_append (pv 1) (pa_cons pe_str pa_nil)))) pss_nil)
  (Evl.pss_cut (ps_if (pt_val (pe_callB (call_isEH hz hf) (by rfl) z_isinstance boot_isinstance (pa_cons (pv 0) (pa_cons (pe_glob rfl m_NotFamily r_NotFamily) pa_nil)))) (pss_one (ps_expr (pe_bm PySem.F.plainAttrs_list PySem.F.slot_list_append PySem.F.type_list_append mt_append (pv 1) (pa_cons pe_str pa_nil)))) pss_nil)
  (Evl.pss_cut (ps_if (pt_val (pe_callB (call_isEH hz hf) (by rfl) z_isinstance boot_isinstance (pa_cons (pv 0) (pa_cons (pe_glob rfl m_NotDiagram r_NotDiagram) pa_nil)))) (pss_one (ps_expr (pe_bm PySem.F.plainAttrs_list PySem.F.slot_list_append PySem.F.type_list_append mt_append (pv 1) (pa_cons pe_str pa_nil)))) pss_nil)
  (Evl.pss_cut (ps_if (pt_val (pe_callB (call_isEH hz hf) (by rfl) z_isinstance boot_isinstance (pa_cons (pv 0) (pa_cons (pe_glob rfl m_NotNumber r_NotNumber) pa_nil)))) (pss_one (ps_expr (pe_bm PySem.F.plainAttrs_list PySem.F.slot_list_append PySem.F.type_list_append mt_append (pv 1) (pa_cons pe_str pa_nil)))) pss_nil)
  (Evl.pss_cut (ps_if (pt_val (pe_callB (call_isEH hz hf) (by rfl) z_isinstance boot_isinstance (pa_cons (pv 0) (pa_cons (pe_glob rfl m_BadNumber r_BadNumber) pa_nil)))) (pss_one (ps_expr (pe_bm PySem.F.plainAttrs_list PySem.F.slot_list_append PySem.F.type_list_append mt_append (pv 1) (pa_cons pe_str pa_nil)))) pss_nil)
  (Evl.pss_cut (ps_if (pt_val (pe_callB (call_isEH hz hf) (by rfl) z_isinstance boot_isinstance (pa_cons (pv 0) (pa_cons (pe_glob rfl m_TooLarge r_TooLarge) pa_nil)))) (pss_one (ps_expr (pe_bm PySem.F.plainAttrs_list PySem.F.slot_list_append PySem.F.type_list_append mt_append (pv 1) (pa_cons pe_str pa_nil)))) pss_nil)
  (pss_cons (ps_if (L2.PW.pt (pw_and (pt_cmpR op_eq (pe_callB call_len_seq (by rfl) z_len boot_len (pa_cons (pv 1) pa_nil)) pe_int (nomark _)) (pw_and1 (pt_val (pe_callB (call_isEH hz hf) (by rfl) z_isinstance boot_isinstance (pa_cons (pv 0) (pa_cons (pe_glob rfl m_WorthError r_WorthError) pa_nil))))))) (pss_one (ps_ret (pe_op op_add_str pe_str (pe_ix ix_list (pv 1) pe_int (fun _ _ => rfl))))) pss_nil)
  (pss_one (ps_ret pe_str)))))))))), ?_⟩
    have szl : 20000 ≤ sizeLine := by decide
    refine ⟨(by show 0 ≤ sizeLine; decide), fun L nL => ?_⟩
    have st0 : Same H (upd H L (.lst [])) ∧ upd H L (.lst []) L = some (.lst ((([] : List Str).filter fun t => decide (t = z)).map V.str)) := ⟨same_upd nL, upd_same⟩
    revert st0
    generalize upd H L (.lst []) = H0
    intro st0
    refine ⟨fun σ H' => σ = [some (.ref a), some (.ref L)] ∧ Same H H' ∧ H' L = some (.lst (((["world"] : List Str).filter fun t => decide (t = z)).map V.str)), ?_, ?_⟩
    · refine ⟨_, rfl, D, rfl, rfl, k.C, .ref CW, .ref CW, _, rfl, fun _ r => r, k.k0, _, rfl, ?_⟩
      by_cases c : ("world" : Str) = z
      · refine if_pos_of (decide_eq_true c) ⟨_, rfl, .inl ⟨rfl, _, .inl (.inl st0.2)⟩, L, _, _, rfl, rfl, st0.2, Nat.lt_of_le_of_lt (fl_len z ([] : List Str)) (Nat.lt_of_lt_of_le (by decide : ([] : List Str).length < 20) (by omega)), ?_⟩
        refine ⟨rfl, Same.mut st0.1 nL, ?_⟩
        rw [show (["world"] : List Str) = ([] : List Str) ++ (["world"] : List Str) from rfl, fl_pos c]
        exact upd_same
      · refine if_neg_of (fun h => c (of_decide_eq_true h)) ⟨rfl, st0.1, ?_⟩
        rw [show (["world"] : List Str) = ([] : List Str) ++ (["world"] : List Str) from rfl, fl_neg c]
        exact st0.2
    clear st0
    rintro σ H1 ⟨rfl, st0⟩
    refine ⟨fun σ H' => σ = [some (.ref a), some (.ref L)] ∧ Same H H' ∧ H' L = some (.lst (((["world", "family"] : List Str).filter fun t => decide (t = z)).map V.str)), ?_, ?_⟩
    · refine ⟨_, rfl, D, rfl, rfl, k.C, .ref CF, .ref CF, _, rfl, fun _ r => r, k.k1, _, rfl, ?_⟩
      by_cases c : ("family" : Str) = z
      · refine if_pos_of (decide_eq_true c) ⟨_, rfl, .inl ⟨rfl, _, .inl (.inl st0.2)⟩, L, _, _, rfl, rfl, st0.2, Nat.lt_of_le_of_lt (fl_len z (["world"] : List Str)) (Nat.lt_of_lt_of_le (by decide : (["world"] : List Str).length < 20) (by omega)), ?_⟩
        refine ⟨rfl, Same.mut st0.1 nL, ?_⟩
        rw [show (["world", "family"] : List Str) = (["world"] : List Str) ++ (["family"] : List Str) from rfl, fl_pos c]
        exact upd_same
      · refine if_neg_of (fun h => c (of_decide_eq_true h)) ⟨rfl, st0.1, ?_⟩
        rw [show (["world", "family"] : List Str) = (["world"] : List Str) ++ (["family"] : List Str) from rfl, fl_neg c]
        exact st0.2
    clear st0
    rintro σ H2 ⟨rfl, st0⟩
    refine ⟨fun σ H' => σ = [some (.ref a), some (.ref L)] ∧ Same H H' ∧ H' L = some (.lst (((["world", "family", "diagram"] : List Str).filter fun t => decide (t = z)).map V.str)), ?_, ?_⟩
    · refine ⟨_, rfl, D, rfl, rfl, k.C, .ref CD, .ref CD, _, rfl, fun _ r => r, k.k2, _, rfl, ?_⟩
      by_cases c : ("diagram" : Str) = z
      · refine if_pos_of (decide_eq_true c) ⟨_, rfl, .inl ⟨rfl, _, .inl (.inl st0.2)⟩, L, _, _, rfl, rfl, st0.2, Nat.lt_of_le_of_lt (fl_len z (["world", "family"] : List Str)) (Nat.lt_of_lt_of_le (by decide : (["world", "family"] : List Str).length < 20) (by omega)), ?_⟩
        refine ⟨rfl, Same.mut st0.1 nL, ?_⟩
        rw [show (["world", "family", "diagram"] : List Str) = (["world", "family"] : List Str) ++ (["diagram"] : List Str) from rfl, fl_pos c]
        exact upd_same
      · refine if_neg_of (fun h => c (of_decide_eq_true h)) ⟨rfl, st0.1, ?_⟩
        rw [show (["world", "family", "diagram"] : List Str) = (["world", "family"] : List Str) ++ (["diagram"] : List Str) from rfl, fl_neg c]
        exact st0.2
    clear st0
    rintro σ H3 ⟨rfl, st0⟩
    refine ⟨fun σ H' => σ = [some (.ref a), some (.ref L)] ∧ Same H H' ∧ H' L = some (.lst (((["world", "family", "diagram", "value"] : List Str).filter fun t => decide (t = z)).map V.str)), ?_, ?_⟩
    · refine ⟨_, rfl, D, rfl, rfl, k.C, .ref X_NotNumber, .ref X_NotNumber, _, rfl, fun _ r => r, k.k3, _, rfl, ?_⟩
      by_cases c : ("value" : Str) = z
      · refine if_pos_of (decide_eq_true c) ⟨_, rfl, .inl ⟨rfl, _, .inl (.inl st0.2)⟩, L, _, _, rfl, rfl, st0.2, Nat.lt_of_le_of_lt (fl_len z (["world", "family", "diagram"] : List Str)) (Nat.lt_of_lt_of_le (by decide : (["world", "family", "diagram"] : List Str).length < 20) (by omega)), ?_⟩
        refine ⟨rfl, Same.mut st0.1 nL, ?_⟩
        rw [show (["world", "family", "diagram", "value"] : List Str) = (["world", "family", "diagram"] : List Str) ++ (["value"] : List Str) from rfl, fl_pos c]
        exact upd_same
      · refine if_neg_of (fun h => c (of_decide_eq_true h)) ⟨rfl, st0.1, ?_⟩
        rw [show (["world", "family", "diagram", "value"] : List Str) = (["world", "family", "diagram"] : List Str) ++ (["value"] : List Str) from rfl, fl_neg c]
        exact st0.2
    clear st0
    rintro σ H4 ⟨rfl, st0⟩
    refine ⟨fun σ H' => σ = [some (.ref a), some (.ref L)] ∧ Same H H' ∧ H' L = some (.lst (((["world", "family", "diagram", "value", "number"] : List Str).filter fun t => decide (t = z)).map V.str)), ?_, ?_⟩
    · refine ⟨_, rfl, D, rfl, rfl, k.C, .ref CB, .ref CB, _, rfl, fun _ r => r, k.k4, _, rfl, ?_⟩
      by_cases c : ("number" : Str) = z
      · refine if_pos_of (decide_eq_true c) ⟨_, rfl, .inl ⟨rfl, _, .inl (.inl st0.2)⟩, L, _, _, rfl, rfl, st0.2, Nat.lt_of_le_of_lt (fl_len z (["world", "family", "diagram", "value"] : List Str)) (Nat.lt_of_lt_of_le (by decide : (["world", "family", "diagram", "value"] : List Str).length < 20) (by omega)), ?_⟩
        refine ⟨rfl, Same.mut st0.1 nL, ?_⟩
        rw [show (["world", "family", "diagram", "value", "number"] : List Str) = (["world", "family", "diagram", "value"] : List Str) ++ (["number"] : List Str) from rfl, fl_pos c]
        exact upd_same
      · refine if_neg_of (fun h => c (of_decide_eq_true h)) ⟨rfl, st0.1, ?_⟩
        rw [show (["world", "family", "diagram", "value", "number"] : List Str) = (["world", "family", "diagram", "value"] : List Str) ++ (["number"] : List Str) from rfl, fl_neg c]
        exact st0.2
    clear st0
    rintro σ H5 ⟨rfl, st0⟩
    refine ⟨fun σ H' => σ = [some (.ref a), some (.ref L)] ∧ Same H H' ∧ H' L = some (.lst (((["world", "family", "diagram", "value", "number", "large"] : List Str).filter fun t => decide (t = z)).map V.str)), ?_, ?_⟩
    · refine ⟨_, rfl, D, rfl, rfl, k.C, .ref CT, .ref CT, _, rfl, fun _ r => r, k.k5, _, rfl, ?_⟩
      by_cases c : ("large" : Str) = z
      · refine if_pos_of (decide_eq_true c) ⟨_, rfl, .inl ⟨rfl, _, .inl (.inl st0.2)⟩, L, _, _, rfl, rfl, st0.2, Nat.lt_of_le_of_lt (fl_len z (["world", "family", "diagram", "value", "number"] : List Str)) (Nat.lt_of_lt_of_le (by decide : (["world", "family", "diagram", "value", "number"] : List Str).length < 20) (by omega)), ?_⟩
        refine ⟨rfl, Same.mut st0.1 nL, ?_⟩
        rw [show (["world", "family", "diagram", "value", "number", "large"] : List Str) = (["world", "family", "diagram", "value", "number"] : List Str) ++ (["large"] : List Str) from rfl, fl_pos c]
        exact upd_same
      · refine if_neg_of (fun h => c (of_decide_eq_true h)) ⟨rfl, st0.1, ?_⟩
        rw [show (["world", "family", "diagram", "value", "number", "large"] : List Str) = (["world", "family", "diagram", "value", "number"] : List Str) ++ (["large"] : List Str) from rfl, fl_neg c]
        exact st0.2
    clear st0
    rintro σ H6 ⟨rfl, st0⟩
    have e1 : ((["world", "family", "diagram", "value", "number", "large"] : List Str).filter fun t => decide (t = z)) = [z] := by
      have n := k.n
      simp only [List.mem_cons, List.not_mem_nil, or_false] at n
      rcases n with rfl | rfl | rfl | rfl | rfl | rfl <;> decide
    rw [e1] at st0
    have zl : z.length ≤ 20 := by
      have n := k.n
      simp only [List.mem_cons, List.not_mem_nil, or_false] at n
      rcases n with rfl | rfl | rfl | rfl | rfl | rfl <;> decide
    refine ⟨_, rfl, L, _, rfl, .inl (.inl (.inl st0.2)), rfl, _, rfl, if_pos_of rfl ⟨_, rfl, D, rfl, rfl, k.C, .ref CE, .ref CE, true, rfl, fun _ r => r, k.e, _, rfl, if_pos_of rfl ?_⟩⟩
    exact ⟨_, rfl, L, _, 0, .str z, rfl, rfl, .inl (.inl st0.2), rfl, "!", z, rfl, rfl, Nat.le_trans (Nat.add_le_add_left zl _) (Nat.le_trans (by decide) szl), q _ st0.1⟩
end

section
variable {P : Program} {w : World} {K : PySem.W.Frag} {mg : Str → Option Value} {base : Heap}
/-! ### _law_told, _law_pair -/
structure ErrE (K : PySem.W.Frag) (mg : Str → Option Value) (CE CW CF CD X_NotNumber CB CT : Addr) : Prop where
  gE : mg "WorthError" = some (.ref CE)
  ebc : PySem.W.subIn K (.ref CE) (.type "BaseException") = some true
  ehd : PySem.W.hasDictIn K CE = true
  ety : PySem.W.typeIn K (.ref CE) = some (.type "type")
  sW : PySem.W.subIn K (.ref CW) (.ref CE) = some true
  sF : PySem.W.subIn K (.ref CF) (.ref CE) = some true
  sD : PySem.W.subIn K (.ref CD) (.ref CE) = some true
  sB : PySem.W.subIn K (.ref CB) (.ref CE) = some true
  sT : PySem.W.subIn K (.ref CT) (.ref CE) = some true
  kW : KindE K CE CW CF CD X_NotNumber CB CT CW "world"
  kF : KindE K CE CW CF CD X_NotNumber CB CT CF "family"
  kD : KindE K CE CW CF CD X_NotNumber CB CT CD "diagram"
  kB : KindE K CE CW CF CD X_NotNumber CB CT CB "number"
  kT : KindE K CE CW CF CD X_NotNumber CB CT CT "large"
def TellC (H : Hp) (Q : VK) (z : Str) (n m : Int) (R : Prop) : Prop := (z ∉ fams → ∀ H', Same H H' → Q (.str "!family") H') ∧ (z ∈ fams → siz n m = false → ∀ H', Same H H' → Q (.str "!number") H') ∧
  (z ∈ fams → siz n m = true → (250 < cntV z n.toNat m.toNat → ∀ H', Same H H' → Q (.str "!large") H') ∧
    (cntV z n.toNat m.toNat ≤ 250 → (cntV z n.toNat m.toNat ≠ 0 → ∀ k, k ≤ n.toNat + m.toNat → (rowsF z n k).length ≤ 10000) ∧ (listF z n.toNat m.toNat).length ≤ 250 ∧ R))
def spTold48 (K : PySem.W.Frag) : Sp := fun vs H Q _ => ∃ (x : Addr) (p d way : Int) (z : Str) (n m : Int), vs = [.int way, .ref x, .str z, .int n, .int m] ∧ SqT K H x [.int p, .int d] ∧
  ((way = 0 ∧ TellC H Q z n m (∀ L H', Same H H' → TabH H H' L (tabJ z n.toNat m.toNat) → Q (.ref L) H')) ∨
   (way ≠ 0 ∧ (isW p d = false → ∀ H', Same H H' → Q (.str "!world") H') ∧ (isW p d = true → TellC H Q z n m (∀ L us H', Same H H' → H' L = some (.lst us) → RowsP K p d H' us (tabN z n.toNat m.toNat) → Q (.ref L) H'))))
def spPair : Sp := fun vs H Q _ => ∃ (v1 v2 : V) (n m k q : Int) (bs cs : List (List Int)), vs = [v1, v2] ∧ DGv H v1 n m bs ∧ DgOk n m bs ∧ DGv H v2 k q cs ∧ DgOk k q cs ∧ (¬ IsDg n m bs → ∀ H', Same H H' → Q (.str "!diagram") H') ∧
  (IsDg n m bs → ¬ IsDg k q cs → ∀ H', Same H H' → Q (.str "!diagram") H') ∧ (IsDg n m bs → IsDg k q cs → ¬ (n = k ∧ m = q) → ∀ H', Same H H' → Q (.str "!number") H') ∧ (IsDg n m bs → IsDg k q cs → n = k → m = q → ∀ H', Same H H' → Q (.int (jpc (n + m).toNat bs cs : Nat)) H')
theorem ok_law_told {f CE CW CF CD X_NotNumber CB CT : Addr} {fd : FuncData} (F : Fun K "_law_told" "_law_told" s_law_told f fd) (T : ErrE K mg CE CW CF CD X_NotNumber CB CT)
    {a_closings : Addr} {fd_closings : FuncData} (G_closings : FnOk P w K mg base (L2N.CX P w) 6 a_closings fd_closings ["family", "n", "m"] (spClosings CF CB CT)) (g_closings : mg "closings" = some (.ref a_closings)) (k_closings : PySem.W.keepIn K (.ref a_closings) = true) (b_closings : Binds K fd_closings ["family", "n", "m"] [])
    {a_worths : Addr} {fd_worths : FuncData} (G_worths : FnOk P w K mg base (L2N.CX P w) 9 a_worths fd_worths ["world", "family", "n", "m"] (spWorths K CW CF CB CT)) (g_worths : mg "worths" = some (.ref a_worths)) (k_worths : PySem.W.keepIn K (.ref a_worths) = true) (b_worths : Binds K fd_worths ["world", "family", "n", "m"] [])
    {a_law_kind : Addr} {fd_law_kind : FuncData} (G_law_kind : FnE P w K mg base  1 a_law_kind fd_law_kind ["error"] (spLErr K CE CW CF CD X_NotNumber CB CT)) (g_law_kind : mg "_law_kind" = some (.ref a_law_kind)) (k_law_kind : PySem.W.keepIn K (.ref a_law_kind) = true) (b_law_kind : Binds K fd_law_kind ["error"] []) :
    FnOk P w K mg base CX0 10 f fd ["way", "world", "family", "n", "m"] (spTold48 K) := by
  have gc_WorthError := T.gE
  have eW := PySem.W.exm_ref T.ebc T.ehd T.ety T.sW
  have eF := PySem.W.exm_ref T.ebc T.ehd T.ety T.sF
  have eB := PySem.W.exm_ref T.ebc T.ehd T.ety T.sB
  have eT := PySem.W.exm_ref T.ebc T.ehd T.ety T.sT
  refine F.ok sc_law_told (fun vs H Q E h => ?_) (fun cdv A outer s H vs Q E hr1 h => ?_)
  · obtain ⟨x, p, d, way, z, n, m, rfl, _⟩ := h
    rfl
  · obtain ⟨x, p, d, way, z, n, m, rfl, hx, q⟩ := h
    refine ⟨_, (pss_one (L2N.ps_try_as (i := 5) (Wout := fun _ _ _ _ => False) rfl rfl sc_law_told.nd rfl rfl ⟨rfl, by decide, .inl gc_WorthError⟩ takes0N (fun W pn xe tk _ => by exact (pss_cons (ps_if (pt_cmpR op_eq (pv 0) pe_int (nomark _)) (pss_one (ps_ret (pe_callS G_closings (hr1.mono (by decide)) rfl g_closings k_closings b_closings (fun σ => L2N.passAt tk σ) (pa_cons (pv 2) (pa_cons (pv 3) (pa_cons (pv 4) pa_nil)))))) pss_nil)
  (pss_one (ps_ret (pe_callS G_worths (hr1.mono (by decide)) rfl g_worths k_worths b_worths (fun σ => L2N.passAt tk σ) (pa_cons (pv 1) (pa_cons (pv 2) (pa_cons (pv 3) (pa_cons (pv 4) pa_nil))))))))) (fun ax oe cls dx pn hz hf => by exact (pss_one (ps_ret (pe_callX1 G_law_kind (hr1.mono (by decide)) hz hf rfl g_law_kind k_law_kind b_law_kind (pa_cons (pv 5) pa_nil))))))), ?_⟩
    refine ⟨_, rfl, rfl, _, rfl, ite2 (fun e => ?_) (fun e => ?_)⟩
    · have e : way = 0 := V.int.inj (of_decide_eq_true e)
      obtain ⟨_, q1, q2, q3⟩ := q.resolve_right fun h => h.1 e
      refine ⟨_, rfl, _, rfl, _, rfl, z, n, m, rfl, fun h => ⟨true, eF, fun _ ax _ => ⟨_, rfl, ⟨_, _, rfl, rfl, rfl, T.kF, fun H2 s2 => q1 h H2 s2⟩⟩, fun z => nomatch z⟩, fun h1 h2 => ⟨true, eB, fun _ ax _ => ⟨_, rfl, ⟨_, _, rfl, rfl, rfl, T.kB, fun H2 s2 => q2 h1 h2 H2 s2⟩⟩, fun z => nomatch z⟩, fun h1 h2 => ⟨fun c H' s' => ⟨true, eT, fun _ ax _ => ⟨_, rfl, ⟨_, _, rfl, rfl, rfl, T.kT, fun H2 s2 => (q3 h1 h2).1 c H2 (Same.trans s' s2)⟩⟩, fun z => nomatch z⟩, fun c => ⟨((q3 h1 h2).2 c).1, ((q3 h1 h2).2 c).2.1, fun L H' s' tb => ((q3 h1 h2).2 c).2.2 L H' s' tb⟩⟩⟩
    · have e : way ≠ 0 := fun h => e (decide_eq_true (congrArg V.int h))
      obtain ⟨_, qW, q⟩ := q.resolve_left fun h => e h.1
      refine ⟨_, rfl, _, rfl, _, rfl, _, rfl, x, p, d, z, n, m, rfl, hx, fun h => ⟨true, eW, fun _ ax _ => ⟨_, rfl, ⟨_, _, rfl, rfl, rfl, T.kW, fun H2 s2 => qW h H2 s2⟩⟩, fun z => nomatch z⟩, fun h => ?_⟩
      obtain ⟨q1, q2, q3⟩ := q h
      exact ⟨fun h => ⟨true, eF, fun _ ax _ => ⟨_, rfl, ⟨_, _, rfl, rfl, rfl, T.kF, fun H2 s2 => q1 h H2 s2⟩⟩, fun z => nomatch z⟩, fun h1 h2 => ⟨true, eB, fun _ ax _ => ⟨_, rfl, ⟨_, _, rfl, rfl, rfl, T.kB, fun H2 s2 => q2 h1 h2 H2 s2⟩⟩, fun z => nomatch z⟩, fun h1 h2 => ⟨fun c H' s' => ⟨true, eT, fun _ ax _ => ⟨_, rfl, ⟨_, _, rfl, rfl, rfl, T.kT, fun H2 s2 => (q3 h1 h2).1 c H2 (Same.trans s' s2)⟩⟩, fun z => nomatch z⟩, fun c => ⟨((q3 h1 h2).2 c).1, ((q3 h1 h2).2 c).2.1, fun L us H' s' hL pr => ((q3 h1 h2).2 c).2.2 L us H' s' hL pr⟩⟩⟩
theorem ok_law_pair {f CE CW CF CD X_NotNumber CB CT : Addr} {fd : FuncData} (F : Fun K "_law_pair" "_law_pair" s_law_pair f fd) (T : ErrE K mg CE CW CF CD X_NotNumber CB CT)
    {a_joined : Addr} {fd_joined : FuncData} (G_joined : FnOk P w K mg base (L2N.CX P w) 5 a_joined fd_joined ["one", "other"] (spJoined CD CB)) (g_joined : mg "joined" = some (.ref a_joined)) (k_joined : PySem.W.keepIn K (.ref a_joined) = true) (b_joined : Binds K fd_joined ["one", "other"] [])
    {a_law_kind : Addr} {fd_law_kind : FuncData} (G_law_kind : FnE P w K mg base  1 a_law_kind fd_law_kind ["error"] (spLErr K CE CW CF CD X_NotNumber CB CT)) (g_law_kind : mg "_law_kind" = some (.ref a_law_kind)) (k_law_kind : PySem.W.keepIn K (.ref a_law_kind) = true) (b_law_kind : Binds K fd_law_kind ["error"] []) :
    FnOk P w K mg base CX0 6 f fd ["one", "other"] spPair := by
  have gc_WorthError := T.gE
  have eD := PySem.W.exm_ref T.ebc T.ehd T.ety T.sD
  have eB := PySem.W.exm_ref T.ebc T.ehd T.ety T.sB
  refine F.ok sc_law_pair (fun vs H Q E h => ?_) (fun cdv A outer s H vs Q E hr1 h => ?_)
  · obtain ⟨v1, v2, n, m, k, q, bs, cs, rfl, _⟩ := h
    rfl
  · obtain ⟨v1, v2, n, m, k, q, bs, cs, rfl, d1, o1, d2, o2, q1, q2, q3, q4⟩ := h
    refine ⟨_, (pss_one (L2N.ps_try_as (i := 2) (Wout := fun _ _ _ _ => False) rfl rfl sc_law_pair.nd rfl rfl ⟨rfl, by decide, .inl gc_WorthError⟩ takes0N (fun W pn xe tk _ => by exact (pss_one (ps_ret (pe_callS G_joined (hr1.mono (by decide)) rfl g_joined k_joined b_joined (fun σ => L2N.passAt tk σ) (pa_cons (pv 0) (pa_cons (pv 1) pa_nil)))))) (fun ax oe cls dx pn hz hf => by exact (pss_one (ps_ret (pe_callX1 G_law_kind (hr1.mono (by decide)) hz hf rfl g_law_kind k_law_kind b_law_kind (pa_cons (pv 2) pa_nil))))))), ?_⟩
    exact ⟨_, rfl, _, rfl, v1, v2, n, m, k, q, bs, cs, rfl, d1, o1, d2, o2, fun h H' s' => ⟨true, eD, fun _ ax _ => ⟨_, rfl, ⟨_, _, rfl, rfl, rfl, T.kD, fun H2 s2 => q1 h H2 (Same.trans s' s2)⟩⟩, fun z => nomatch z⟩, fun h1 h2 H' s' => ⟨true, eD, fun _ ax _ => ⟨_, rfl, ⟨_, _, rfl, rfl, rfl, T.kD, fun H2 s2 => q2 h1 h2 H2 (Same.trans s' s2)⟩⟩, fun z => nomatch z⟩, fun h1 h2 h3 H' s' => ⟨true, eB, fun _ ax _ => ⟨_, rfl, ⟨_, _, rfl, rfl, rfl, T.kB, fun H2 s2 => q3 h1 h2 h3 H2 (Same.trans s' s2)⟩⟩, fun z => nomatch z⟩, fun h1 h2 h3 h4 H' s' => q4 h1 h2 h3 h4 H' s'⟩
end

/-! ### what is finite: the shapes that the law draws -/
def Shp (z : Str) (n m : Nat) : Prop := (n ≤ 3 ∧ m ≤ 3 ∧ n + m ≤ 4 ∧ (z = "threads" → n = m)) ∨ ((z = "pairs" ∨ z = "even") ∧ n + m = 6)
instance (z : Str) (n m : Nat) : Decidable (Shp z n m) := by unfold Shp; infer_instance
def fin48b (z : Str) (n m : Nat) : Bool := decide (cntV z n m ≤ 250) && ((List.range (n + m + 1)).all fun k => decide ((rowsF z n k).length ≤ 10000)) && decide (listF z n m = ((rgR (n + m)).map blocksOf).filter (inFam z (n : Int))) && decide ((listF z n m).length ≤ 31)
def Fin48 (z : Str) : Prop := ((List.range 7).all fun n => (List.range 7).all fun m => !decide (Shp z n m) || fin48b z n m) = true
instance (z : Str) : Decidable (Fin48 z) := by unfold Fin48; infer_instance
theorem fin48_threads : Fin48 "threads" := by decide +kernel
theorem fin48_loose : Fin48 "loose" := by decide +kernel
theorem fin48_pairs : Fin48 "pairs" := by decide +kernel
theorem fin48_lonepairs : Fin48 "lonepairs" := by decide +kernel
theorem fin48_even : Fin48 "even" := by decide +kernel
theorem fin48_parts : Fin48 "parts" := by decide +kernel
theorem fams_cases {p : Str → Prop} (h0 : p "threads") (h1 : p "loose") (h2 : p "pairs") (h3 : p "lonepairs") (h4 : p "even") (h5 : p "parts") : ∀ z ∈ fams, p z := by
  intro z mz
  simp only [fams, List.mem_cons, List.not_mem_nil, or_false] at mz
  rcases mz with rfl | rfl | rfl | rfl | rfl | rfl
  · exact h0
  · exact h1
  · exact h2
  · exact h3
  · exact h4
  · exact h5
theorem Shp.le {z : Str} {n m : Nat} (h : Shp z n m) : n ≤ 6 ∧ m ≤ 6 ∧ n + m ≤ 6 := by
  unfold Shp at h
  omega
theorem fin48 {z : Str} (mz : z ∈ fams) {n m : Nat} (h : Shp z n m) : cntV z n m ≤ 250 ∧ (∀ k, k ≤ n + m → (rowsF z n k).length ≤ 10000) ∧ listF z n m = ((rgR (n + m)).map blocksOf).filter (inFam z (n : Int)) ∧ (listF z n m).length ≤ 31 := by
  obtain ⟨h1, h2, h3⟩ := h.le
  have h0 : Fin48 z := fams_cases (p := Fin48) fin48_threads fin48_loose fin48_pairs fin48_lonepairs fin48_even fin48_parts z mz
  unfold Fin48 at h0
  have h1 := List.all_eq_true.mp (List.all_eq_true.mp h0 n (List.mem_range.mpr (by omega))) m (List.mem_range.mpr (by omega))
  rw [decide_eq_true h] at h1
  have h1 : fin48b z n m = true := h1
  unfold fin48b at h1
  simp only [Bool.and_eq_true, decide_eq_true_eq, List.all_eq_true, List.mem_range] at h1
  exact ⟨h1.1.1.1, fun k hk => h1.1.1.2 k (by omega), h1.1.2, h1.2⟩
theorem rg7 : ∀ k, k < 7 → (rgR k).length ≤ 5000 := by decide +kernel
theorem rg_ne : ∀ n, n < 3 → ∀ m, m < 3 → ((rgR (n + m)).map blocksOf).filter (inFam "parts" (n : Int)) ≠ [] := by decide +kernel
theorem rg_parts : ∀ n, n < 3 → ∀ m, m < 3 → (((rgR (n + m)).map blocksOf).filter (inFam "parts" (n : Int))).length ≤ 1000 := by decide +kernel
theorem big_parts : 250 < cntV "parts" 3 4 := by decide +kernel
theorem big_threads : 250 < cntV "threads" 6 6 := by decide +kernel
theorem fams_flat : ("flat" : Str) ∉ fams := by decide +kernel
theorem fams_parts : ("parts" : Str) ∈ fams := by decide +kernel
theorem fams_threads : ("threads" : Str) ∈ fams := by decide +kernel
theorem fams_pe : ∀ k : Nat, k < 2 → ([("pairs" : Str), "even"].getD k "") ∈ fams := by decide +kernel
theorem rg_blocks {z : Str} {n N : Nat} {bs : List (List Int)} (h : bs ∈ ((rgR N).map blocksOf).filter (inFam z (n : Int))) : ∃ l : List Int, bs = blocksOf l ∧ l.length = N := by
  obtain ⟨l, hl, rfl⟩ := List.mem_map.mp (List.mem_filter.mp h).1
  exact ⟨l, rfl, (rgR_ok hl).1⟩
/-- no diagram -/
theorem bad_no {n m : Int} : ¬ IsDg n m [[5, 5]] := fun h => by
  have nd := h.pm.nodup_iff.mpr (by
    unfold ixs
    exact List.pairwise_map.mpr ((range_lt _).imp fun {a b} h e => by omega))
  exact absurd nd (by decide)
/-- a diagram with a new point of its own -/
theorem IsDg.more1 {n m : Int} {bs : List (List Int)} (h : IsDg n m bs) (hm : m + 1 ≤ 8) (hn : n + m + 1 ≤ 12) : IsDg n (m + 1) (bs ++ [[n + m]]) := by
  have hs := siz_iff.mp h.sz
  refine ⟨siz_iff.mpr ⟨by omega, by omega, by omega, by omega, by omega⟩, fun b hb => ?_, ?_, fun b hb => ?_, ?_⟩
  · rcases List.mem_append.mp hb with hb | hb
    · exact h.ne b hb
    · rw [List.mem_singleton.mp hb]
      exact List.cons_ne_nil _ _
  · rw [List.flatten_append, show (n + (m + 1)).toNat = (n + m).toNat + 1 by omega]
    have e : ixs ((n + m).toNat + 1) = ixs (n + m).toNat ++ [n + m] := by
      unfold ixs
      rw [List.range_succ, List.map_append]
      show _ ++ [(((n + m).toNat : Nat) : Int)] = _
      rw [Int.toNat_of_nonneg (by omega)]
    rw [e]
    exact h.pm.append_right _
  · rcases List.mem_append.mp hb with hb | hb
    · exact h.asc b hb
    · rw [List.mem_singleton.mp hb]
      exact List.pairwise_singleton _ _
  · rw [List.map_append, List.pairwise_append]
    refine ⟨h.hd, List.pairwise_singleton _ _, fun a ha b hb => ?_⟩
    obtain ⟨g, hg, rfl⟩ := List.mem_map.mp ha
    have := dg_pt h hg (co_mem (List.length_pos_iff.mpr (h.ne g hg)))
    rw [List.mem_singleton.mp hb]
    show co g 0 ≤ n + m
    omega

/-! ### the law -/
def rowsI (rows : List (List Nat)) : List (List Int) := rows.map fun r => r.map fun k => ((k : Nat) : Int)
theorem tabJ_I (z : Str) (n m : Nat) : tabJ z n m = (rowsI (tabN z n m)).map fun r => r.map V.int := by
  rw [tabJ_N]
  unfold rowsI
  rw [List.map_map]
  refine List.map_congr_left fun r _ => ?_
  show _ = List.map _ (List.map _ _)
  rw [List.map_map]
  rfl
theorem tab_dp {K : PySem.W.Frag} {H : Hp} {us : List V} {rows : List (List Int)} (p : Paired (LP H) us rows) : DpAll K H us (rows.map dL) := by
  induction p with
  | nil => exact .nil
  | cons h _ ih => exact .cons h.dp ih
theorem tabH_lp {H0 H : Hp} {L : Addr} {us : List V} {rows : List (List Int)} (t : TabH H0 H L (rows.map fun r => r.map V.int)) (hL : H L = some (.lst us)) : Paired (LP H) us rows := by
  obtain ⟨_, us', hL', _, pr⟩ := t
  obtain rfl : us' = us := HO.lst.inj (Option.some.inj (hL'.symm.trans hL))
  have : ∀ {us : List V} {rows : List (List Int)}, Paired (fun v r => ∃ a, v = .ref a ∧ a ≠ L ∧ H0 a = none ∧ H a = some (.lst r)) us (rows.map fun r => r.map V.int) → Paired (LP H) us rows := by
    intro us rows
    induction rows generalizing us with
    | nil => intro p; cases p; exact .nil
    | cons r rows ih =>
      intro p
      cases p with
      | cons h t =>
        obtain ⟨a, e, _, _, ha⟩ := h
        exact .cons ⟨a, e, ha⟩ (ih t)
  exact this pr
/-- small tables of small numbers -/
def SmT (rows : List (List Nat)) : Prop := rows.length ≤ 31 ∧ ∀ r ∈ rows, r.length ≤ 31 ∧ ∀ k ∈ r, k ≤ 6
theorem smL_rows {rows : List (List Nat)} (h : SmT rows) : SmL 2 3000000 (.list ((rowsI rows).map dL)) := by
  have e := smL_list (ds := (rowsI rows).map dL) (n := 1) (k := 1923 * 31 + 3) fun D hD => by
    obtain ⟨r, hr, rfl⟩ := List.mem_map.mp hD
    obtain ⟨g, hg, rfl⟩ := List.mem_map.mp hr
    obtain ⟨l, b⟩ := h.2 g hg
    refine smL_dL (B := 31) (fun x hx => ?_) (by rw [List.length_map]; exact l)
    obtain ⟨k, hk, rfl⟩ := List.mem_map.mp hx
    exact Nat.lt_of_le_of_lt (show ((k : Nat) : Int).natAbs ≤ 6 by have := b k hk; omega) (by decide)
  have el : ((rowsI rows).map dL).length = rows.length := by
    unfold rowsI
    rw [List.length_map, List.length_map]
  rw [el] at e
  have := h.1
  exact e.more (by omega)
def dPow (p d : Int) (k : Nat) : PyData := .tuple [.int (pwN p d k), .int 1]
def dPows (p d : Int) (rows : List (List Nat)) : PyData := .list (rows.map fun r => .list (r.map (dPow p d)))
theorem pwN_small {p d : Int} {k : Nat} (hd : d.natAbs ≤ 6) (hW : isW p d = true) (hk : k ≤ 6) : (pwN p d k).natAbs < 2 ^ 200 := by
  have e : (d ^ k).natAbs ≤ 6 ^ 6 := by
    rw [Int.natAbs_pow]
    exact Nat.le_trans (Nat.pow_le_pow_left hd k) (Nat.pow_le_pow_right (by decide) hk)
  unfold pwN
  split
  · exact Nat.lt_of_le_of_lt e (by decide)
  · rename_i c
    have h1 := Int.emod_nonneg (d ^ k) c
    have h2 := prime_pos (isW_prime hW c).1
    have h3 := Int.emod_lt_of_pos (d ^ k) (show 0 < p by omega)
    exact Nat.lt_of_le_of_lt (show (d ^ k % p).natAbs ≤ 31 by omega) (by decide)
theorem smL_pows {p d : Int} {rows : List (List Nat)} (hd : d.natAbs ≤ 6) (hW : isW p d = true) (h : SmT rows) : SmL 3 4000000 (dPows p d rows) := by
  have e := smL_list (ds := rows.map fun r => PyData.list (r.map (dPow p d))) (n := 2) (k := 4002 * 31 + 3) fun D hD => by
    obtain ⟨r, hr, rfl⟩ := List.mem_map.mp hD
    obtain ⟨l, b⟩ := h.2 r hr
    have e := smL_list (ds := r.map (dPow p d)) (n := 1) (k := 4000) fun D hD => by
      obtain ⟨k, hk, rfl⟩ := List.mem_map.mp hD
      exact smL_pair (pwN_small hd hW (b k hk)) (by decide)
    rw [List.length_map] at e
    exact e.more (by omega)
  rw [List.length_map] at e
  have := h.1
  exact e.more (by omega)
theorem PwT.dp {K : PySem.W.Frag} {p d : Int} {H : Hp} {v : V} {k : Nat} (h : PwT K p d H v k) : Dp K H v (dPow p d k) := by
  obtain ⟨a, rfl, h⟩ := h
  exact .tup h (.cons (.int _) (.cons (.int 1) .nil))
theorem pwr_dp {K : PySem.W.Frag} {p d : Int} {H : Hp} {xs : List V} {r : List Nat} (h : Paired (PwT K p d H) xs r) : DpAll K H xs (r.map (dPow p d)) := by
  induction h with
  | nil => exact .nil
  | cons h _ ih => exact .cons h.dp ih
theorem rowsP_dp {K : PySem.W.Frag} {p d : Int} {H : Hp} {us : List V} {rows : List (List Nat)} (h : RowsP K p d H us rows) : DpAll K H us (rows.map fun r => PyData.list (r.map (dPow p d))) := by
  unfold RowsP at h
  induction h with
  | nil => exact .nil
  | cons h _ ih =>
    obtain ⟨a, xs, rfl, ha, hx⟩ := h
    exact .cons (.lst (.inl (.inl ha)) (pwr_dp hx)) ih
theorem PwT.but {K : PySem.W.Frag} {p d : Int} {H H' : Hp} {D : Addr} {us : List V} {v : V} {k : Nat} (hD : H D = some (.lst us)) (sb : SameBut D H H') (h : PwT K p d H v k) : PwT K p d H' v k := by
  obtain ⟨a, e, h⟩ := h
  refine ⟨a, e, ?_⟩
  rcases h with (h | ⟨o, h⟩) | h
  · exact .inl (.inl (sb a _ (fun z => by rw [z, hD] at h; exact nomatch h) h))
  · exact .inl (.inr ⟨o, sb a _ (fun z => by rw [z, hD] at h; exact nomatch h) h⟩)
  · exact .inr h
theorem nneV {x y : V} (h : x = y) : ¬ (!decide (x = y)) = true := by
  rw [decide_eq_true h]
  exact Bool.false_ne_true
/-- what stays through the law: the draws, the world -/
structure K48 (H : Hp) (r x : Addr) (p d : Int) (ds : List Int) : Prop where
  hr : H r = some (.lst (ds.map V.int))
  hx : H x = some (.tup [.int p, .int d])
theorem K48.same {H H' : Hp} {r x : Addr} {p d : Int} {ds : List Int} (s : Same H H') (h : K48 H r x p d ds) : K48 H' r x p d ds := ⟨s _ _ h.hr, s _ _ h.hx⟩
theorem K48.ne {H : Hp} {r x : Addr} {p d : Int} {ds : List Int} (h : K48 H r x p d ds) : x ≠ r := fun z => by
  have := h.hx
  rw [z, h.hr] at this
  exact nomatch this
theorem K48.next {H : Hp} {r x : Addr} {p d : Int} {ds ds' : List Int} (h : K48 H r x p d ds) : K48 (upd H r (.lst (ds'.map V.int))) r x p d ds' := ⟨upd_same, by rw [upd_ne h.ne]; exact h.hx⟩
section
variable {P : Program} {w : World} {K : PySem.W.Frag} {mg : Str → Option Value} {base : Heap}
def spLaw (K : PySem.W.Frag) : Sp := fun vs H Q _ => ∃ (a : Addr) (ns : List Int), vs = [.ref a] ∧ SqL K H a (ns.map V.int) ∧ ns.length ≤ 63 ∧ ∀ H', Q (.bl true) H'
theorem ok_law {f CD CB CT : Addr} {fd : FuncData} (F : Fun K "law" "law" s_law f fd) (z_int : mg "int" = none) (z_range : mg "range" = none) (z_repr : mg "repr" = none) (z_len : mg "len" = none) (z_min : mg "min" = none) (z_isinstance : mg "isinstance" = none) (z_bool : mg "bool" = none)
    {a_law_draws : Addr} {fd_law_draws : FuncData} (G_law_draws : FnOk P w K mg base CX0 2 a_law_draws fd_law_draws ["script"] (spDraws K)) (g_law_draws : mg "_law_draws" = some (.ref a_law_draws)) (k_law_draws : PySem.W.keepIn K (.ref a_law_draws) = true) (b_law_draws : Binds K fd_law_draws ["script"] [])
    {a_law_next : Addr} {fd_law_next : FuncData} (G_law_next : FnOk P w K mg base CX0 1 a_law_next fd_law_next ["draws"] spNext) (g_law_next : mg "_law_next" = some (.ref a_law_next)) (k_law_next : PySem.W.keepIn K (.ref a_law_next) = true) (b_law_next : Binds K fd_law_next ["draws"] [])
    {a_law_world : Addr} {fd_law_world : FuncData} (G_law_world : FnOk P w K mg base CX0 2 a_law_world fd_law_world ["draws"] spLawWorld) (g_law_world : mg "_law_world" = some (.ref a_law_world)) (k_law_world : PySem.W.keepIn K (.ref a_law_world) = true) (b_law_world : Binds K fd_law_world ["draws"] [])
    {a_law_shape : Addr} {fd_law_shape : FuncData} (G_law_shape : FnOk P w K mg base CX0 3 a_law_shape fd_law_shape ["draws"] spShape) (g_law_shape : mg "_law_shape" = some (.ref a_law_shape)) (k_law_shape : PySem.W.keepIn K (.ref a_law_shape) = true) (b_law_shape : Binds K fd_law_shape ["draws"] [])
    {a_law_all : Addr} {fd_law_all : FuncData} (G_law_all : FnOk P w K mg base CX0 2 a_law_all fd_law_all ["family", "n", "m"] spAll) (g_law_all : mg "_law_all" = some (.ref a_law_all)) (k_law_all : PySem.W.keepIn K (.ref a_law_all) = true) (b_law_all : Binds K fd_law_all ["family", "n", "m"] [])
    {a_law_joined : Addr} {fd_law_joined : FuncData} (G_law_joined : FnOk P w K mg base CX0 2 a_law_joined fd_law_joined ["one", "other"] spLJoined) (g_law_joined : mg "_law_joined" = some (.ref a_law_joined)) (k_law_joined : PySem.W.keepIn K (.ref a_law_joined) = true) (b_law_joined : Binds K fd_law_joined ["one", "other"] [])
    {a_law_told : Addr} {fd_law_told : FuncData} (G_law_told : FnOk P w K mg base CX0 10 a_law_told fd_law_told ["way", "world", "family", "n", "m"] (spTold48 K)) (g_law_told : mg "_law_told" = some (.ref a_law_told)) (k_law_told : PySem.W.keepIn K (.ref a_law_told) = true) (b_law_told : Binds K fd_law_told ["way", "world", "family", "n", "m"] [])
    {a_law_power : Addr} {fd_law_power : FuncData} (G_law_power : FnOk P w K mg base CX0 2 a_law_power fd_law_power ["world", "count"] (spLPower K)) (g_law_power : mg "_law_power" = some (.ref a_law_power)) (k_law_power : PySem.W.keepIn K (.ref a_law_power) = true) (b_law_power : Binds K fd_law_power ["world", "count"] [])
    {a_law_pair : Addr} {fd_law_pair : FuncData} (G_law_pair : FnOk P w K mg base CX0 6 a_law_pair fd_law_pair ["one", "other"] spPair) (g_law_pair : mg "_law_pair" = some (.ref a_law_pair)) (k_law_pair : PySem.W.keepIn K (.ref a_law_pair) = true) (b_law_pair : Binds K fd_law_pair ["one", "other"] [])
    {a_put : Addr} {fd_put : FuncData} (G_put : FnOk P w K mg base (L2N.CX P w) 4 a_put fd_put ["one", "other"] (spPut CD CB CT)) (g_put : mg "put" = some (.ref a_put)) (k_put : PySem.W.keepIn K (.ref a_put) = true) (b_put : Binds K fd_put ["one", "other"] [])
    {a_over : Addr} {fd_over : FuncData} (G_over : FnOk P w K mg base (L2N.CX P w) 5 a_over fd_over ["diagram"] (spOver CD)) (g_over : mg "over" = some (.ref a_over)) (k_over : PySem.W.keepIn K (.ref a_over) = true) (b_over : Binds K fd_over ["diagram"] [])
    {a_closing : Addr} {fd_closing : FuncData} (G_closing : FnOk P w K mg base (L2N.CX P w) 5 a_closing fd_closing ["diagram"] (spClosing CD CB)) (g_closing : mg "closing" = some (.ref a_closing)) (k_closing : PySem.W.keepIn K (.ref a_closing) = true) (b_closing : Binds K fd_closing ["diagram"] []) :
    FnG P w K mg base 12 f fd ["script"] (spLaw K) := by
  refine F.okG sc_law (fun vs H Q E h => ?_) (fun cdv A outer s H vs Q E hgu hr h => ?_)
  · obtain ⟨a, ns, rfl, _⟩ := h
    rfl
  · obtain ⟨sc, ns, rfl, hS, hlen, q⟩ := h
    refine ⟨_, (pss_cons (ps_set (i := 1) sc_law.nd rfl (.inl rfl) (pe_call G_law_draws (hr.mono (by decide)) rfl g_law_draws k_law_draws b_law_draws .nil pass0 (pa_cons (pv 0) pa_nil)))
  (pss_cons (ps_expr (pe_bm0 PySem.F.plainAttrs_list PySem.F.slot_list_reverse PySem.F.type_list_reverse mt_reverse (pv 1)))
  (pss_cons (ps_set (i := 2) sc_law.nd rfl (.inr rfl) (pe_call G_law_world (hr.mono (by decide)) rfl g_law_world k_law_world b_law_world .nil pass0 (pa_cons (pv 1) pa_nil)))
  (pss_cons (ps_asg (pe_call G_law_shape (hr.mono (by decide)) rfl g_law_shape k_law_shape b_law_shape .nil pass0 (pa_cons (pv 1) pa_nil)) (pg_unl rfl (pgs_cons (pg_name (i := 3) sc_law.nd rfl (.inl rfl)) (pgs_cons (pg_name (i := 4) sc_law.nd rfl (.inl rfl)) (pgs_cons (pg_name (i := 5) sc_law.nd rfl (.inl rfl)) pgs_nil)))))
  (Evl.pss_cut (ps_if (pt_cmpR op_eq (pe_op op_mod (pe_callTy call_int1 (by rfl) z_int boot_int (pa_cons (pe_call G_law_next (hr.mono (by decide)) rfl g_law_next k_law_next b_law_next .nil pass0 (pa_cons (pv 1) pa_nil)) pa_nil)) pe_int) pe_int (nomark _)) (pss_cons (ps_set (i := 3) sc_law.nd rfl (.inl rfl) (pe_ix ix_list (pe_lst (pa_cons pe_str (pa_cons pe_str pa_nil))) (pe_op op_mod (pe_callTy call_int1 (by rfl) z_int boot_int (pa_cons (pe_call G_law_next (hr.mono (by decide)) rfl g_law_next k_law_next b_law_next .nil pass0 (pa_cons (pv 1) pa_nil)) pa_nil)) pe_int) (fun _ _ => rfl)))
  (pss_cons (ps_set (i := 4) sc_law.nd rfl (.inl rfl) (pe_op op_mod (pe_callTy call_int1 (by rfl) z_int boot_int (pa_cons (pe_call G_law_next (hr.mono (by decide)) rfl g_law_next k_law_next b_law_next .nil pass0 (pa_cons (pv 1) pa_nil)) pa_nil)) pe_int))
  (pss_one (ps_set (i := 5) sc_law.nd rfl (.inl rfl) (pe_op op_sub pe_int (pv 4)))))) pss_nil)
  (pss_cons (ps_set (i := 6) sc_law.nd rfl (.inr rfl) (pe_call G_law_all (hr.mono (by decide)) rfl g_law_all k_law_all b_law_all .nil pass0 (pa_cons (pv 3) (pa_cons (pv 4) (pa_cons (pv 5) pa_nil)))))
  (Evl.pss_cut (ps_setLc (i := 9) (own := [("one", 7)]) rfl sc_law.nd rfl rfl (sw_true rfl rfl rfl (by decide +kernel)) (pi_listK (K := K) rfl (pv 6)) (blkOk_by (N := ["script", "draws", "world", "family", "n", "m", "some", "one", "other", "table", "due", "parts", "told", "loops", "made", "bad", "longer", "way", "row", "count"]) (sc := defScope s_law) (by first | decide +kernel | rfl)) (fun _ _ _ _ _ => (pg_name (i := 7) sc_law.nd rfl (.inr rfl))) (fun _ _ _ _ _ => pts_nil) (fun _ _ _ _ _ => (pe_lc (own := [("other", 8)]) rfl sc_law.nd (pi_listK (K := K) rfl (pv 6)) (blkOk_by (N := ["script", "draws", "world", "family", "n", "m", "some", "one", "other", "table", "due", "parts", "told", "loops", "made", "bad", "longer", "way", "row", "count"]) (by first | decide +kernel | rfl)) (fun _ _ _ _ _ => (pg_name (i := 8) sc_law.nd rfl (.inl rfl))) (fun _ _ _ _ _ => pts_nil) (fun _ _ _ _ _ => (pe_call G_law_joined (hr.mono (by decide)) rfl g_law_joined k_law_joined b_law_joined .nil pass0 (pa_cons (pv 7) (pa_cons (pv 8) pa_nil)))))))
  (Evl.pss_cut (ps_if (pt_cmpR op_ne (pe_callB (cr_reprD hgu (room65 hr)) (by rfl) z_repr boot_repr (pa_cons (pe_call G_law_told (hr.mono (by decide)) rfl g_law_told k_law_told b_law_told .nil pass0 (pa_cons pe_int (pa_cons (pv 2) (pa_cons (pv 3) (pa_cons (pv 4) (pa_cons (pv 5) pa_nil)))))) pa_nil)) (pe_callB (cr_reprD hgu (room65 hr)) (by rfl) z_repr boot_repr (pa_cons (pv 9) pa_nil)) (nomark _)) (pss_one (ps_ret pe_bl)) pss_nil)
  (Evl.pss_cut (ps_setLc (i := 10) (own := [("row", 18)]) rfl sc_law.nd rfl rfl (sw_true rfl rfl rfl (by decide +kernel)) (pi_list (pv 9)) (blkOk_by (N := ["script", "draws", "world", "family", "n", "m", "some", "one", "other", "table", "due", "parts", "told", "loops", "made", "bad", "longer", "way", "row", "count"]) (sc := defScope s_law) (by first | decide +kernel | rfl)) (fun _ _ _ _ _ => (pg_name (i := 18) sc_law.nd rfl (.inl rfl))) (fun _ _ _ _ _ => pts_nil) (fun _ _ _ _ _ => (pe_lc (own := [("count", 19)]) rfl sc_law.nd (pi_listK (K := K) rfl (pv 18)) (blkOk_by (N := ["script", "draws", "world", "family", "n", "m", "some", "one", "other", "table", "due", "parts", "told", "loops", "made", "bad", "longer", "way", "row", "count"]) (by first | decide +kernel | rfl)) (fun _ _ _ _ _ => (pg_name (i := 19) sc_law.nd rfl (.inl rfl))) (fun _ _ _ _ _ => pts_nil) (fun _ _ _ _ _ => (pe_call G_law_power (hr.mono (by decide)) rfl g_law_power k_law_power b_law_power .nil pass0 (pa_cons (pv 2) (pa_cons (pv 19) pa_nil)))))))
  (Evl.pss_cut (ps_if (pt_cmpR op_ne (pe_callB (cr_reprD hgu (room65 hr)) (by rfl) z_repr boot_repr (pa_cons (pe_call G_law_told (hr.mono (by decide)) rfl g_law_told k_law_told b_law_told .nil pass0 (pa_cons pe_int (pa_cons (pv 2) (pa_cons (pv 3) (pa_cons (pv 4) (pa_cons (pv 5) pa_nil)))))) pa_nil)) (pe_callB (cr_reprD hgu (room65 hr)) (by rfl) z_repr boot_repr (pa_cons (pv 10) pa_nil)) (nomark _)) (pss_one (ps_ret pe_bl)) pss_nil)
  (pss_cons (ps_set (i := 11) sc_law.nd rfl (.inl rfl) (pe_call G_law_all (hr.mono (by decide)) rfl g_law_all k_law_all b_law_all .nil pass0 (pa_cons pe_str (pa_cons (pe_callB (call_min2 rfl) (by rfl) z_min boot_min (pa_cons (pv 4) (pa_cons pe_int pa_nil))) (pa_cons (pe_callB (call_min2 rfl) (by rfl) z_min boot_min (pa_cons (pv 5) (pa_cons pe_int pa_nil))) pa_nil)))))
  (pss_cons (ps_set (i := 7) sc_law.nd rfl (.inl rfl) (pe_ix ix_list (pv 11) (pe_op op_mod (pe_callTy call_int1 (by rfl) z_int boot_int (pa_cons (pe_call G_law_next (hr.mono (by decide)) rfl g_law_next k_law_next b_law_next .nil pass0 (pa_cons (pv 1) pa_nil)) pa_nil)) (pe_callB call_len_seq (by rfl) z_len boot_len (pa_cons (pv 11) pa_nil))) (fun _ _ => rfl)))
  (Evl.pss_cut (ps_set (i := 8) sc_law.nd rfl (.inl rfl) (pe_ix ix_list (pv 11) (pe_op op_mod (pe_callTy call_int1 (by rfl) z_int boot_int (pa_cons (pe_call G_law_next (hr.mono (by decide)) rfl g_law_next k_law_next b_law_next .nil pass0 (pa_cons (pv 1) pa_nil)) pa_nil)) (pe_callB call_len_seq (by rfl) z_len boot_len (pa_cons (pv 11) pa_nil))) (fun _ _ => rfl)))
  (pss_cons (ps_set (i := 12) sc_law.nd rfl (.inl rfl) (pe_call G_law_pair (hr.mono (by decide)) rfl g_law_pair k_law_pair b_law_pair .nil pass0 (pa_cons (pv 7) (pa_cons (pv 8) pa_nil))))
  (pss_cons (ps_asg (pe_call G_put (hr.mono (by decide)) rfl g_put k_put b_put .nil passLN (pa_cons (pv 7) (pa_cons (pe_call G_over (hr.mono (by decide)) rfl g_over k_over b_over .nil passLN (pa_cons (pv 8) pa_nil)) pa_nil))) (pg_tup rfl (pgs_cons (pg_name (i := 13) sc_law.nd rfl (.inl rfl)) (pgs_cons (pg_name (i := 14) sc_law.nd rfl (.inl rfl)) pgs_nil))))
  (Evl.pss_cut (ps_if (L2.PW.pt (pw_or (pt_cmpR op_ne (pv 12) (pe_call G_law_joined (hr.mono (by decide)) rfl g_law_joined k_law_joined b_law_joined .nil pass0 (pa_cons (pv 7) (pa_cons (pv 8) pa_nil))) (nomark _)) (pw_or (pt_val (pe_callB call_isi (by rfl) z_isinstance boot_isinstance (pa_cons (pv 12) (pa_cons (pe_bltn rfl z_bool boot_bool (show RelV (V.ty "bool") (Value.type "bool") from rfl)) pa_nil)))) (pw_or1 (pt_cmpR op_ne (pv 12) (pe_op op_add (pv 13) (pe_call G_closing (hr.mono (by decide)) rfl g_closing k_closing b_closing .nil passLN (pa_cons (pv 14) pa_nil))) (nomark _)))))) (pss_one (ps_ret pe_bl)) pss_nil)
  (pss_cons (ps_set (i := 15) sc_law.nd rfl (.inl rfl) (pe_tup (pa_cons (pv 4) (pa_cons (pv 5) (pa_cons (pe_tup (pa_cons (pe_tup (pa_cons pe_int (pa_cons pe_int pa_nil))) pa_nil)) pa_nil)))))
  (Evl.pss_cut (ps_set (i := 16) sc_law.nd rfl (.inl rfl) (pe_tup (pa_cons (pe_ix ix_tup (pv 7) pe_int (fun _ _ => rfl)) (pa_cons (pe_op op_add (pe_ix ix_tup (pv 7) pe_int (fun _ _ => rfl)) pe_int) (pa_cons (pe_op op_catTT (pe_ix ix_tup (pv 7) pe_int (fun _ _ => rfl)) (pe_tup (pa_cons (pe_tup (pa_cons (pe_op op_add (pe_ix ix_tup (pv 7) pe_int (fun _ _ => rfl)) (pe_ix ix_tup (pv 7) pe_int (fun _ _ => rfl))) pa_nil)) pa_nil))) pa_nil)))))
  (Evl.pss_cut (ps_if (L2.PW.pt (pw_or (pt_cmpR op_ne (pe_call G_law_pair (hr.mono (by decide)) rfl g_law_pair k_law_pair b_law_pair .nil pass0 (pa_cons (pv 15) (pa_cons (pv 7) pa_nil))) pe_str (nomark _)) (pw_or (pt_cmpR op_ne (pe_call G_law_pair (hr.mono (by decide)) rfl g_law_pair k_law_pair b_law_pair .nil pass0 (pa_cons (pv 16) (pa_cons (pv 15) pa_nil))) pe_str (nomark _)) (pw_or1 (pt_cmpR op_ne (pe_call G_law_pair (hr.mono (by decide)) rfl g_law_pair k_law_pair b_law_pair .nil pass0 (pa_cons (pv 7) (pa_cons (pv 16) pa_nil))) pe_str (nomark _)))))) (pss_one (ps_ret pe_bl)) pss_nil)
  (Evl.pss_cut (ps_for PassesOwn.never rfl (pi_range1 rfl z_range (pa_cons pe_int pa_nil)) (pg_name (i := 17) sc_law.nd rfl (.inl rfl)) (pss_cons (ps_if (L2.PW.pt (pw_or (pt_cmpR op_ne (pe_call G_law_told (hr.mono (by decide)) rfl g_law_told k_law_told b_law_told .nil pass0 (pa_cons (pv 17) (pa_cons (pv 2) (pa_cons pe_str (pa_cons (pe_un un_neg pe_int) (pa_cons pe_int pa_nil)))))) pe_str (nomark _)) (pw_or1 (pt_cmpR op_ne (pe_call G_law_told (hr.mono (by decide)) rfl g_law_told k_law_told b_law_told .nil pass0 (pa_cons (pv 17) (pa_cons (pv 2) (pa_cons (pv 3) (pa_cons (pe_un un_neg pe_int) (pa_cons pe_int pa_nil)))))) pe_str (nomark _))))) (pss_one (ps_ret pe_bl)) pss_nil)
  (pss_cons (ps_if (L2.PW.pt (pw_or (pt_cmpR op_ne (pe_call G_law_told (hr.mono (by decide)) rfl g_law_told k_law_told b_law_told .nil pass0 (pa_cons (pv 17) (pa_cons (pv 2) (pa_cons (pv 3) (pa_cons pe_int (pa_cons pe_int pa_nil)))))) pe_str (nomark _)) (pw_or1 (pt_cmpR op_ne (pe_call G_law_told (hr.mono (by decide)) rfl g_law_told k_law_told b_law_told .nil pass0 (pa_cons (pv 17) (pa_cons (pv 2) (pa_cons pe_str (pa_cons pe_int (pa_cons pe_int pa_nil)))))) pe_str (nomark _))))) (pss_one (ps_ret pe_bl)) pss_nil)
  (pss_one (ps_if (L2.PW.pt (pw_or (pt_cmpR op_ne (pe_call G_law_told (hr.mono (by decide)) rfl g_law_told k_law_told b_law_told .nil pass0 (pa_cons (pv 17) (pa_cons (pv 2) (pa_cons pe_str (pa_cons pe_int (pa_cons pe_int pa_nil)))))) pe_str (nomark _)) (pw_or1 (pt_cmpR op_ne (pe_call G_law_told (hr.mono (by decide)) rfl g_law_told k_law_told b_law_told .nil pass0 (pa_cons (pv 17) (pa_cons (pv 2) (pa_cons pe_str (pa_cons pe_int (pa_cons pe_int pa_nil)))))) pe_str (nomark _))))) (pss_one (ps_ret pe_bl)) pss_nil)))))
  (pss_one (ps_ret (pe_and (pe_cmpR op_eq (pe_call G_law_told (hr.mono (by decide)) rfl g_law_told k_law_told b_law_told .nil pass0 (pa_cons pe_int (pa_cons (pe_tup (pa_cons pe_int (pa_cons pe_int pa_nil))) (pa_cons pe_str (pa_cons (pe_un un_neg pe_int) (pa_cons pe_int pa_nil)))))) pe_str (nomark _)) (pe_one (pe_cmpR op_eq (pe_call G_law_told (hr.mono (by decide)) rfl g_law_told k_law_told b_law_told .nil pass0 (pa_cons pe_int (pa_cons (pe_tup (pa_cons pe_int (pa_cons pe_int pa_nil))) (pa_cons pe_str (pa_cons pe_int (pa_cons pe_int pa_nil)))))) pe_str (nomark _)))))))))))))))))))))))))), ?_⟩
    have szl : 20000 ≤ sizeLine := by decide
    have szb : 4000000 ≤ sizeLine := by decide
    refine ⟨_, rfl, sc, ns, rfl, hS, hlen, fun H1 r ds s1 nr hL => ?_⟩
    refine ⟨_, rfl, .inl ⟨rfl, _, .inl (.inl hL)⟩, r, _, rfl, rfl, hL, ?_⟩
    have hr1 : upd H1 r (.lst (ds.map V.int).reverse) r = some (.lst (ds.reverse.map V.int)) := by rw [upd_same, List.map_reverse]
    revert hr1
    generalize upd H1 r (.lst (ds.map V.int).reverse) = H2
    generalize ds.reverse = ds
    intro hr1
    clear hL s1 nr hS
    refine ⟨_, rfl, r, ds, rfl, hr1, fun p d ds1 x H3 sb3 hr3 nx hx3 hW hd6 => ?_⟩
    refine ⟨_, rfl, r, ds1, rfl, hr3, fun z n m ds2 L H4 mz hn hm hnm hz sb4 hr4 hL4 => ?_⟩
    refine ⟨L, _, rfl, .inl (.inl hL4), rfl, _, _, rfl, _, _, rfl, _, _, rfl, rfl, ?_⟩
    have k4 : K48 H4 r x p d ds2 := ⟨hr4, sb4 _ _ (fun z => by rw [z, hr3] at hx3; exact nomatch hx3) hx3⟩
    have shp : Shp z n m := .inl ⟨hn, hm, hnm, hz⟩
    clear hr1 sb3 hr3 nx hx3 sb4 hr4 hL4 hn hm hnm hz
    refine ⟨fun σ H' => ∃ (z : Str) (n m : Nat) (ds : List Int), z ∈ fams ∧ Shp z n m ∧ σ = [some (.ref sc), some (.ref r), some (.ref x), some (.str z), some (.int (n : Int)), some (.int (m : Int)), none, none, none, none, none, none, none, none, none, none, none, none, none, none] ∧ K48 H' r x p d ds, ?_, ?_⟩
    · refine ⟨_, rfl, r, ds2, rfl, k4.hr, fun n0 ds3 => .inl ⟨n0, rfl, n0, 8, rfl, rfl, (show (0 : Int) < 8 by decide), rfl, _, rfl, ?_⟩⟩
      have k5 : K48 _ r x p d ds3 := k4.next
      refine ite2 (fun _ => ?_) (fun _ => ⟨z, n, m, ds3, mz, shp, rfl, k5⟩)
      revert k5
      generalize upd H4 r (.lst (ds3.map V.int)) = H5
      intro k5
      refine ⟨(by show 2 ≤ sizeLine; omega), fun B nB => ?_⟩
      have Br : B ≠ r := Ne.symm (ne_of_none k5.hr nB)
      have w1 := same_upd (o := .lst [.str "pairs", .str "even"]) nB
      have hB : upd H5 B (.lst [.str "pairs", .str "even"]) B = some (.lst [.str "pairs", .str "even"]) := upd_same
      have k6 := k5.same w1
      revert hB k6
      generalize upd H5 B (.lst [.str "pairs", .str "even"]) = H6
      intro hB k6
      refine ⟨_, rfl, r, ds3, rfl, k6.hr, fun n1 ds4 => .inl ⟨n1, rfl, n1, 2, rfl, rfl, (show (0 : Int) < 2 by decide), ?_⟩⟩
      have k7 : K48 _ r x p d ds4 := k6.next
      obtain ⟨z', ez, mz', hz'⟩ : ∃ z' : Str, atI [V.str "pairs", V.str "even"] (n1 % 2) = some (.str z') ∧ z' ∈ fams ∧ (z' = "pairs" ∨ z' = "even") := by
        have c : n1 % 2 = 0 ∨ n1 % 2 = 1 := by omega
        rcases c with c | c
        · exact ⟨_, by rw [c]; rfl, by decide +kernel, .inl rfl⟩
        · exact ⟨_, by rw [c]; rfl, by decide +kernel, .inr rfl⟩
      refine ⟨B, _, _, .str z', rfl, rfl, .inl (.inl (by rw [upd_ne Br]; exact hB)), ez, ?_⟩
      refine ⟨_, rfl, r, ds4, rfl, k7.hr, fun n2 ds5 => .inl ⟨n2, rfl, n2, 7, rfl, rfl, (show (0 : Int) < 7 by decide), ?_⟩⟩
      have k8 : K48 _ r x p d ds5 := k7.next
      obtain ⟨n', hn', en⟩ : ∃ k : Nat, k < 7 ∧ n2 % 7 = (k : Int) := ⟨(n2 % 7).toNat, by omega, by omega⟩
      dsimp only
      rw [en]
      refine ⟨_, rfl, _, _, rfl, rfl, z', n', 6 - n', ds5, mz', .inr ⟨hz', by omega⟩, ?_, k8⟩
      rw [show (((6 - n' : Nat) : Nat) : Int) = 6 - (n' : Int) by omega]
      rfl
    clear k4 shp mz
    clear z n m ds2
    rintro σ H5 ⟨z, n, m, ds2, mz, shp, rfl, k5⟩
    obtain ⟨hn6, hm6, hnm6⟩ := shp.le
    have sz : siz (n : Int) (m : Int) = true := siz_iff.mpr ⟨by omega, by omega, by omega, by omega, by omega⟩
    obtain ⟨c250, rows4, elist, l31⟩ := fin48 mz shp
    have eb : ∀ bs ∈ listF z n m, ∃ l : List Int, bs = blocksOf l ∧ l.length = n + m := fun bs h => rg_blocks (by rw [elist] at h; exact h)
    have edg : ∀ bs ∈ listF z n m, IsDg (n : Int) (m : Int) bs := listF_dg sz
    have etab := tabN_L eb
    have smt : SmT (tabN z n m) := ⟨by unfold tabN; rw [List.length_map, List.length_range]; exact l31, fun r hr => ⟨by rw [(tabN_le sz r hr).1]; exact l31, fun k hk => Nat.le_trans ((tabN_le sz r hr).2 k hk) hnm6⟩⟩
    refine ⟨_, rfl, _, rfl, _, rfl, z, n, m, rfl, mz, sz, fun k hk => rg7 k (by omega), fun L us H6 s6 hL pr => ?_⟩
    have k6 := k5.same s6
    clear k5 s6
    rw [← elist] at pr
    refine ⟨fun σ H' => ∃ (T : Addr) (ts : List V), σ = [some (.ref sc), some (.ref r), some (.ref x), some (.str z), some (.int (n : Int)), some (.int (m : Int)), some (.ref L), none, none, some (.ref T), none, none, none, none, none, none, none, none, none, none] ∧ K48 H' r x p d ds2 ∧ H' T = some (.lst ts) ∧ Paired (LP H') ts (rowsI (tabN z n m)), ?_, ?_⟩
    · refine ⟨_, rfl, L, rfl, ⟨_, .inl (.inl hL)⟩, fun D nD => ?_⟩
      have LD : L ≠ D := ne_of_none hL nD
      generalize els : listF z n m = ls at *
      refine lc_list (xs := us) (fun i H' => SameBut D H6 H' ∧ ∃ rs, H' D = some (.lst rs) ∧ Paired (RowD D H') rs (rowsI ((tabL (n + m) ls).take i))) ⟨SameBut.upd, [], upd_same, .nil⟩ (fun i H' _ hP => .inl (.inl (hP.1 _ _ LD hL))) (fun i y H7 hy hP => ?_) (fun H7 hP => ?_)
      · obtain ⟨sb, rs, hD, prs⟩ := hP
        obtain ⟨bs, ebs, d1⟩ := paired_at pr hy
        have hi := (List.getElem?_eq_some_iff.mp ebs).1
        have g1 := edg bs (List.mem_of_getElem? ebs)
        have few1 := g1.few.1
        have hL7 := sb _ _ LD hL
        have s67 : Same H6 H7 := fun b o e => sb b o (ne_of_none e nD) e
        refine ⟨rfl, _, rfl, L, rfl, ⟨_, .inl (.inl hL7)⟩, fun D2 nD2 => ?_⟩
        have D2D : D ≠ D2 := ne_of_none hD nD2
        have LD2 : L ≠ D2 := ne_of_none hL7 nD2
        refine lc_list (xs := us) (fun j H' => SameBut D2 H7 H' ∧ H' D2 = some (.lst (((ls.take j).map fun b => ((ljo (n + m) bs b : Nat) : Int)).map V.int))) ⟨SameBut.upd, upd_same⟩ (fun j H' _ hP => .inl (.inl (hP.1 _ _ LD2 hL7))) (fun j y2 H8 hy2 hP => ?_) (fun H8 hP => ?_)
        · obtain ⟨sb8, hD2⟩ := hP
          obtain ⟨cs, ecs, d2⟩ := paired_at pr hy2
          have hj := (List.getElem?_eq_some_iff.mp ecs).1
          have g2 := edg cs (List.mem_of_getElem? ecs)
          have s78 : Same H7 H8 := fun b o e => sb8 b o (ne_of_none e nD2) e
          refine ⟨rfl, _, rfl, _, rfl, y, y2, n, m, bs, cs, rfl, (d1.same s67).same s78, (d2.same s67).same s78, g1, g2, by omega, fun H9 s9 => ?_⟩
          rw [show ((n : Int) + (m : Int)).toNat = n + m by omega]
          refine ⟨_, s9 _ _ hD2, by rw [List.length_map, List.length_map, List.length_take]; omega, fun b o nb e => by rw [upd_ne nb]; exact s9 _ _ (sb8 b o nb e), ?_⟩
          rw [upd_same, List.take_succ, ecs]
          simp only [List.map_append]
          rfl
        · obtain ⟨sb8, hD2⟩ := hP
          have lus := pr.length
          rw [lus, List.take_length] at hD2
          have s78 : Same H7 H8 := fun b o e => sb8 b o (ne_of_none e nD2) e
          have lrs := prs.length
          unfold rowsI at lrs
          rw [List.length_map, List.length_take] at lrs
          refine ⟨rs, s78 _ _ hD, by omega, fun b o nb e => by rw [upd_ne nb]; exact s78 _ _ (sb b o nb e), _, upd_same, ?_⟩
          have et : (tabL (n + m) ls).take (i + 1) = (tabL (n + m) ls).take i ++ [ls.map fun b => ljo (n + m) bs b] := by
            unfold tabL
            rw [List.take_succ, List.getElem?_map, ebs]
            rfl
          rw [et]
          unfold rowsI
          rw [List.map_append]
          refine paired_add ⟨D2, rfl, Ne.symm D2D, ?_⟩ (Paired.mapP prs fun _ _ ⟨a, e, n1, h1⟩ => ⟨a, e, n1, by rw [upd_ne n1]; exact s78 _ _ h1⟩)
          rw [upd_ne (Ne.symm D2D), hD2, List.map_map, List.map_map, List.map_map]
          rfl
      · obtain ⟨sb, rs, hD, prs⟩ := hP
        rw [pr.length, List.take_of_length_le (by unfold tabL; rw [List.length_map]; exact Nat.le_refl _), ← etab] at prs
        exact ⟨D, rs, rfl, k6.same fun b o e => sb b o (ne_of_none e nD) e, hD, Paired.mapP prs fun _ _ ⟨a, e, _, h⟩ => ⟨a, e, h⟩⟩
    clear hL pr k6
    rintro σ H7 ⟨T, ts, rfl, k7, hT, pT⟩
    refine ⟨fun σ H' => σ = [some (.ref sc), some (.ref r), some (.ref x), some (.str z), some (.int (n : Int)), some (.int (m : Int)), some (.ref L), none, none, some (.ref T), none, none, none, none, none, none, none, none, none, none] ∧ K48 H' r x p d ds2 ∧ H' T = some (.lst ts) ∧ Paired (LP H') ts (rowsI (tabN z n m)), ?_, ?_⟩
    · refine ⟨_, rfl, _, rfl, _, rfl, _, rfl, x, p, d, 0, z, n, m, rfl, .inl (.inl k7.hx), .inl ⟨rfl, fun h => absurd mz h, fun _ h => (nomatch sz.symm.trans h), fun _ _ => ⟨fun c => absurd (show cntV z n m ≤ 250 from c250) (by have c : 250 < cntV z n m := c; omega), fun _ => ⟨fun _ k hk => rows4 k hk, Nat.le_trans l31 (by decide), fun L2 H8 s8 tb => ?_⟩⟩⟩⟩
      have tb : TabH H7 H8 L2 (tabJ z n m) := tb
      rw [tabJ_I] at tb
      obtain ⟨us2, hL2, _⟩ := id tb.ex
      have sm := smL_rows smt
      obtain ⟨_, _, m3, m4⟩ := id sm
      refine ⟨_, _, rfl, .lst (.inl (.inl hL2)) (tab_dp (tabH_lp tb hL2)), sm.shaped (by decide), m3, Nat.le_trans m4 (Nat.le_trans (by decide) szb), ?_⟩
      refine ⟨_, rfl, _, _, rfl, .lst (.inl (.inl (s8 _ _ hT))) (tab_dp (Paired.mapP pT fun _ _ ⟨a, e, h⟩ => ⟨a, e, s8 _ _ h⟩)), sm.shaped (by decide), m3, Nat.le_trans m4 (Nat.le_trans (by decide) szb), ?_⟩
      exact ⟨rfl, _, rfl, ite_same ⟨rfl, k7.same s8, s8 _ _ hT, Paired.mapP pT fun _ _ ⟨a, e, h⟩ => ⟨a, e, s8 _ _ h⟩⟩⟩
    clear k7 hT pT
    rintro σ H8 ⟨rfl, k8, hT, pT⟩
    refine ⟨fun σ H' => ∃ (U : Addr) (us : List V), σ = [some (.ref sc), some (.ref r), some (.ref x), some (.str z), some (.int (n : Int)), some (.int (m : Int)), some (.ref L), none, none, some (.ref T), some (.ref U), none, none, none, none, none, none, none, none, none] ∧ K48 H' r x p d ds2 ∧ H' U = some (.lst us) ∧ RowsP K p d H' us (tabN z n m), ?_, ?_⟩
    · refine ⟨_, rfl, T, rfl, ⟨_, .inl (.inl hT)⟩, fun D nD => ?_⟩
      have TD : T ≠ D := ne_of_none hT nD
      generalize tabN z n m = rows at *
      refine lc_list (xs := ts) (fun i H' => SameBut D H8 H' ∧ ∃ rs, H' D = some (.lst rs) ∧ Paired (fun v row => ∃ a xs, v = .ref a ∧ a ≠ D ∧ H' a = some (.lst xs) ∧ Paired (PwT K p d H') xs row) rs (rows.take i)) ⟨SameBut.upd, [], upd_same, .nil⟩ (fun i H' _ hP => .inl (.inl (hP.1 _ _ TD hT))) (fun i y H9 hy hP => ?_) (fun H9 hP => ?_)
      · obtain ⟨sb, rs, hD, prs⟩ := hP
        obtain ⟨row', erow', a, rfl, ha⟩ := paired_at pT hy
        unfold rowsI at erow'
        rw [List.getElem?_map] at erow'
        obtain ⟨row, erow, rfl⟩ := Option.map_eq_some_iff.mp erow'
        have hi := (List.getElem?_eq_some_iff.mp erow).1
        obtain ⟨lrow, brow⟩ := smt.2 row (List.mem_of_getElem? erow)
        have aD : a ≠ D := ne_of_none ha nD
        have ha9 := sb _ _ aD ha
        have s89 : Same H8 H9 := fun b o e => sb b o (ne_of_none e nD) e
        refine ⟨rfl, _, rfl, a, rfl, ⟨_, .inl (.inl ha9)⟩, fun D2 nD2 => ?_⟩
        have D2D : D ≠ D2 := ne_of_none hD nD2
        have aD2 : a ≠ D2 := ne_of_none ha9 nD2
        refine lc_list (xs := (row.map fun k => ((k : Nat) : Int)).map V.int) (fun j H' => SameBut D2 H9 H' ∧ ∃ xs, H' D2 = some (.lst xs) ∧ Paired (PwT K p d H') xs (row.take j)) ⟨SameBut.upd, [], upd_same, .nil⟩ (fun j H' _ hP => .inl (.inl (hP.1 _ _ aD2 ha9))) (fun j y2 H10 hy2 hP => ?_) (fun H10 hP => ?_)
        · obtain ⟨sb10, xs, hD2, px⟩ := hP
          rw [List.map_map, List.getElem?_map] at hy2
          obtain ⟨k, ek, rfl⟩ := Option.map_eq_some_iff.mp hy2
          have hj := (List.getElem?_eq_some_iff.mp ek).1
          have bk := brow k (List.mem_of_getElem? ek)
          have s910 : Same H9 H10 := fun b o e => sb10 b o (ne_of_none e nD2) e
          have lx := px.length
          rw [List.length_take] at lx
          refine ⟨rfl, _, rfl, _, rfl, x, p, d, k, rfl, .inl (.inl (s910 _ _ (s89 _ _ k8.hx))), hW, by omega, fun r2 H11 s11 hr2 => ?_⟩
          refine ⟨xs, s11 _ _ hD2, by omega, fun b o nb e => by rw [upd_ne nb]; exact s11 _ _ (sb10 b o nb e), _, upd_same, ?_⟩
          rw [List.take_succ, ek]
          exact paired_add (PwT.but (s11 _ _ hD2) SameBut.upd ⟨r2, rfl, hr2⟩) (Paired.mapP px fun _ _ h => PwT.but (s11 _ _ hD2) SameBut.upd (h.same s11))
        · obtain ⟨sb10, xs, hD2, px⟩ := hP
          rw [List.length_map, List.length_map, List.take_length] at px
          have s910 : Same H9 H10 := fun b o e => sb10 b o (ne_of_none e nD2) e
          have lrs := prs.length
          rw [List.length_take] at lrs
          have lr := smt.1
          have hDa := s910 _ _ hD
          refine ⟨rs, hDa, by omega, fun b o nb e => by rw [upd_ne nb]; exact s910 _ _ (sb b o nb e), _, upd_same, ?_⟩
          rw [List.take_succ, erow]
          refine paired_add ⟨D2, xs, rfl, Ne.symm D2D, by rw [upd_ne (Ne.symm D2D)]; exact hD2, Paired.mapP px fun _ _ h => PwT.but hDa SameBut.upd h⟩ (Paired.mapP prs fun _ _ ⟨a, xs, e, n1, h1, h2⟩ => ⟨a, xs, e, n1, by rw [upd_ne n1]; exact s910 _ _ h1, Paired.mapP h2 fun _ _ h => PwT.but hDa SameBut.upd (h.same s910)⟩)
      · obtain ⟨sb, rs, hD, prs⟩ := hP
        have lt := pT.length
        unfold rowsI at lt
        rw [List.length_map] at lt
        rw [lt, List.take_length] at prs
        exact ⟨D, rs, rfl, k8.same fun b o e => sb b o (ne_of_none e nD) e, hD, Paired.mapP prs fun _ _ ⟨a, xs, e, _, h1, h2⟩ => ⟨a, xs, e, h1, h2⟩⟩
    clear k8 hT pT
    rintro σ H9 ⟨U, us9, rfl, k9, hU, pU⟩
    refine ⟨fun σ H' => σ = [some (.ref sc), some (.ref r), some (.ref x), some (.str z), some (.int (n : Int)), some (.int (m : Int)), some (.ref L), none, none, some (.ref T), some (.ref U), none, none, none, none, none, none, none, none, none] ∧ K48 H' r x p d ds2, ?_, ?_⟩
    · refine ⟨_, rfl, _, rfl, _, rfl, _, rfl, x, p, d, 1, z, n, m, rfl, .inl (.inl k9.hx), .inr ⟨by decide, fun h => (nomatch hW.symm.trans h), fun _ => ⟨fun h => absurd mz h, fun _ h => (nomatch sz.symm.trans h), fun _ _ => ⟨fun c => absurd (show cntV z n m ≤ 250 from c250) (by have c : 250 < cntV z n m := c; omega), fun _ => ⟨fun _ k hk => rows4 k hk, Nat.le_trans l31 (by decide), fun L2 us2 H10 s10 hL2 pL2 => ?_⟩⟩⟩⟩⟩
      have pL2 : RowsP K p d H10 us2 (tabN z n m) := pL2
      have sm := smL_pows hd6 hW smt
      obtain ⟨_, _, m3, m4⟩ := id sm
      refine ⟨_, _, rfl, .lst (.inl (.inl hL2)) (rowsP_dp pL2), sm.shaped (by decide), m3, Nat.le_trans m4 szb, ?_⟩
      refine ⟨_, rfl, _, _, rfl, .lst (.inl (.inl (s10 _ _ hU))) (rowsP_dp (p := p) (d := d) (rows := tabN z n m) (Paired.mapP pU fun _ _ ⟨a, xs, e, h1, h2⟩ => ⟨a, xs, e, s10 _ _ h1, Paired.mapP h2 fun _ _ h => h.same s10⟩)), sm.shaped (by decide), m3, Nat.le_trans m4 szb, ?_⟩
      exact ⟨rfl, _, rfl, ite_same ⟨rfl, k9.same s10⟩⟩
    clear k9 hU pU
    rintro σ H10 ⟨rfl, k10⟩
    obtain ⟨n', hn', en⟩ : ∃ k : Nat, k ≤ 2 ∧ (if (2 : Int) < (n : Int) then (2 : Int) else (n : Int)) = (k : Int) := ⟨(if (2 : Int) < (n : Int) then (2 : Int) else (n : Int)).toNat, by split <;> omega, by split <;> omega⟩
    obtain ⟨m', hm', em⟩ : ∃ k : Nat, k ≤ 2 ∧ (if (2 : Int) < (m : Int) then (2 : Int) else (m : Int)) = (k : Int) := ⟨(if (2 : Int) < (m : Int) then (2 : Int) else (m : Int)).toNat, by split <;> omega, by split <;> omega⟩
    have sz' : siz (n' : Int) (m' : Int) = true := siz_iff.mpr ⟨by omega, by omega, by omega, by omega, by omega⟩
    refine ⟨_, rfl, _, _, rfl, _, rfl, _, _, rfl, "parts", n', m', by rw [← en, ← em]; rfl, fams_parts, sz', fun k hk => rg7 k (by omega), fun PL ps H11 s11 hPL pp => ?_⟩
    have k11 := k10.same s11
    clear k10 s11
    have ne := rg_ne n' (by omega) m' (by omega)
    have lep := rg_parts n' (by omega) m' (by omega)
    have bl : ∀ bs ∈ ((rgR (n' + m')).map blocksOf).filter (inFam "parts" (n' : Int)), ∃ l : List Int, bs = blocksOf l ∧ l.length = n' + m' := fun bs h => rg_blocks h
    revert ne lep bl pp
    generalize ((rgR (n' + m')).map blocksOf).filter (inFam "parts" (n' : Int)) = ls
    intro pp ne lep bl
    have lps := pp.length
    have l0 := List.length_pos_iff.mpr ne
    have pick : ∀ n0 : Int, ∃ (v : V) (l : List Int), atI ps (n0 % (ps.length : Int)) = some v ∧ DgAt H11 v n' m' l := fun n0 => by
      have mo := mod_lt8 n0 (show (0 : Int) < (ps.length : Int) by omega)
      obtain ⟨k, hk, ek⟩ : ∃ k : Nat, k < ps.length ∧ n0 % (ps.length : Int) = (k : Int) := ⟨(n0 % (ps.length : Int)).toNat, by omega, by omega⟩
      have e := List.getElem?_eq_getElem hk
      obtain ⟨bs, eb, dv⟩ := paired_at pp e
      obtain ⟨l, rfl, hl⟩ := bl bs (List.mem_of_getElem? eb)
      exact ⟨_, l, by rw [ek]; exact atI_nat e, dv, sz', by omega⟩
    have PLr : PL ≠ r := fun z => by
      obtain ⟨v, l, e, ⟨t, _, rfl, _⟩, _⟩ := pick 0
      rw [z, k11.hr] at hPL
      obtain rfl := HO.lst.inj (Option.some.inj hPL)
      rw [Int.zero_emod] at e
      rw [List.length_map] at lps
      have := at_co (l := ds2) (k := 0) (by omega)
      exact nomatch this.symm.trans e
    refine ⟨_, rfl, _, rfl, r, ds2, rfl, k11.hr, fun n0 ds3 => .inl ⟨n0, rfl, _, rfl, PL, ps, rfl, .inl (.inl (.inl (by rw [upd_ne PLr]; exact hPL))), _, _, rfl, rfl, by omega, ?_⟩⟩
    have sb12 : SameBut r H11 (upd H11 r (.lst (ds3.map V.int))) := SameBut.upd
    have k12 : K48 _ r x p d ds3 := k11.next
    obtain ⟨v1, l1, e1, d1⟩ := pick n0
    have d1 := d1.butL k11.hr sb12
    have hPL12 := sb12 _ _ PLr hPL
    revert sb12 k12 d1 hPL12
    generalize upd H11 r (.lst (ds3.map V.int)) = H12
    intro sb12 k12 d1 hPL12
    refine ⟨PL, ps, _, v1, rfl, rfl, .inl (.inl hPL12), e1, ?_⟩
    refine ⟨fun σ H' => ∃ (v2 : V) (l2 ds : List Int), σ = [some (.ref sc), some (.ref r), some (.ref x), some (.str z), some (.int (n : Int)), some (.int (m : Int)), some (.ref L), some v1, some v2, some (.ref T), some (.ref U), some (.ref PL), none, none, none, none, none, none, none, none] ∧ K48 H' r x p d ds ∧ DgAt H' v1 n' m' l1 ∧ DgAt H' v2 n' m' l2, ?_, ?_⟩
    · refine ⟨_, rfl, _, rfl, r, ds3, rfl, k12.hr, fun n1 ds4 => .inl ⟨n1, rfl, _, rfl, PL, ps, rfl, .inl (.inl (.inl (by rw [upd_ne PLr]; exact hPL12))), _, _, rfl, rfl, by omega, ?_⟩⟩
      have sb13 : SameBut r H12 (upd H12 r (.lst (ds4.map V.int))) := SameBut.upd
      have k13 : K48 _ r x p d ds4 := k12.next
      obtain ⟨v2, l2, e2, d2⟩ := pick n1
      exact ⟨PL, ps, _, v2, rfl, rfl, .inl (.inl (sb13 _ _ PLr hPL12)), e2, v2, l2, ds4, rfl, k13, d1.butL k12.hr sb13, (d2.butL k11.hr sb12).butL k12.hr sb13⟩
    clear d1 hPL12 k12 sb12 k11 hPL pp pick
    rintro σ H13 ⟨v2, l2, ds4, rfl, k13, d1, d2⟩
    have len1 : l1.length = n' + m' := by have := d1.2.2; omega
    have len2 : l2.length = n' + m' := by have := d2.2.2; omega
    obtain ⟨t1, rfl⟩ : ∃ t, v1 = .ref t := by
      obtain ⟨⟨t, _, e, _⟩, _⟩ := d1
      exact ⟨t, e⟩
    have ejp := jpc_put len1 len2
    have few1 := d1.dg.few.1
    have eN : ((n' : Int) + (m' : Int)).toNat = n' + m' := by omega
    have nd1 : ∀ {R : Prop}, ¬ IsDg n' m' (blocksOf l1) → R := fun h => absurd d1.dg h
    refine ⟨_, rfl, _, rfl, .ref t1, v2, n', m', n', m', _, _, rfl, d1.1, d1.ok, d2.1, d2.ok, fun h => absurd d1.dg h, fun _ h => absurd d2.dg h, fun _ _ h => absurd ⟨rfl, rfl⟩ h, fun _ _ _ _ H14 s14 => ?_⟩
    rw [eN]
    have k14 := k13.same s14
    have d1 := d1.same s14
    have d2 := d2.same s14
    clear k13 s14
    refine ⟨_, rfl, _, rfl, v2, n', m', _, rfl, d2.1, d2.ok, .inr ⟨l2, rfl, d2.2.1, len2, fun vo H15 s15 dvo => ?_⟩⟩
    have k15 := k14.same s15
    have d1 := d1.same s15
    have d2 := d2.same s15
    clear k14 s15
    refine ⟨.ref t1, vo, n', m', _, m', n', _, rfl, d1.1, d1.ok, dvo.1, dvo.ok, .inr ⟨n', m', l1, rfl, rfl, rfl, d1.2.1, d1.2.2, .inr ⟨m', n', ovL n' l2, rfl, rfl, rfl, dvo.2.1, dvo.2.2, fun ne => absurd rfl ne, fun _ big => by omega, fun _ _ tp vm H16 s16 htp dm => ?_⟩⟩⟩
    refine ⟨tp, _, rfl, .inl (.inl htp), rfl, _, _, rfl, _, _, rfl, rfl, ?_⟩
    have k16 := k15.same s16
    have d1 := d1.same s16
    have d2 := d2.same s16
    clear k15 dvo htp s16
    refine ⟨fun σ H' => ∃ (v12 v13 v14 : Option V), σ = [some (.ref sc), some (.ref r), some (.ref x), some (.str z), some (.int (n : Int)), some (.int (m : Int)), some (.ref L), some (.ref t1), some v2, some (.ref T), some (.ref U), some (.ref PL), v12, v13, v14, none, none, none, none, none] ∧ K48 H' r x p d ds4 ∧ DgAt H' (.ref t1) n' m' l1, ?_, ?_⟩
    · refine ⟨_, rfl, _, rfl, _, rfl, .ref t1, v2, n', m', _, _, rfl, d1.1, d2.1, d1.dg, d2.dg, by omega, fun H17 s17 => ?_⟩
      rw [eN]
      refine ⟨rfl, _, rfl, if_neg_of (nneV (congrArg (fun k : Nat => V.int (k : Int)) (jpc_ljo len1 len2))) ?_⟩
      refine ⟨_, rfl, _, _, _, _, false, rfl, .ty _, .base (.int _), kit_ty (by decide +kernel), _, rfl, iteF ?_⟩
      have dm := dm.same s17
      refine ⟨_, rfl, _, rfl, _, rfl, vm, n', n', _, rfl, dm.1, dm.ok, .inr ⟨n', n', putS n' m' n' l1 (ovL n' l2), rfl, rfl, rfl, dm.2.1, dm.2.2, fun ne => absurd rfl ne, fun _ H18 s18 => ?_⟩⟩
      refine ⟨_, _, rfl, rfl, rfl, _, rfl, if_neg_of (nneV ?_) ?_⟩
      · show V.int _ = V.int _
        rw [← ejp]
        rfl
      · exact ⟨_, _, _, rfl, (k16.same s17).same s18, (d1.same s17).same s18⟩
    clear k16 d1 d2 dm
    rintro σ H17 ⟨v12, v13, v14, rfl, k17, d1⟩
    refine ⟨_, rfl, _, rfl, (by show 2 ≤ sizeLine; omega), fun q1 nq1 => ⟨(by show 1 ≤ sizeLine; omega), fun q2 nq2 => ⟨(by show 3 ≤ sizeLine; omega), fun B nB => ?_⟩⟩⟩
    have w1 := same_upd (o := .tup [.int 5, .int 5]) nq1
    have w2 := same_upd (o := .tup [.ref q1]) nq2
    have w3 := same_upd (o := .tup [.int (n : Int), .int (m : Int), .ref q2]) nB
    have dB : DGv (upd (upd (upd H17 q1 (.tup [.int 5, .int 5])) q2 (.tup [.ref q1])) B (.tup [.int (n : Int), .int (m : Int), .ref q2])) (.ref B) n m [[5, 5]] := ⟨B, _, rfl, upd_same, q2, [.ref q1], rfl, w3 _ _ upd_same, .cons ⟨q1, rfl, w3 _ _ (w2 _ _ upd_same)⟩ .nil⟩
    have s17 := Same.trans w1 (Same.trans w2 w3)
    have k18 := k17.same s17
    have d1 := d1.same s17
    clear k17 s17 w1 w2 w3 nq1 nq2 nB
    revert dB k18 d1
    generalize upd (upd (upd H17 q1 (.tup [.int 5, .int 5])) q2 (.tup [.ref q1])) B (.tup [.int (n : Int), .int (m : Int), .ref q2]) = H18
    intro dB k18 d1
    refine ⟨fun σ H' => ∃ (G : Addr), σ = [some (.ref sc), some (.ref r), some (.ref x), some (.str z), some (.int (n : Int)), some (.int (m : Int)), some (.ref L), some (.ref t1), some v2, some (.ref T), some (.ref U), some (.ref PL), v12, v13, v14, some (.ref B), some (.ref G), none, none, none] ∧ K48 H' r x p d ds4 ∧ DgAt H' (.ref t1) n' m' l1 ∧ DGv H' (.ref B) n m [[5, 5]] ∧ DGv H' (.ref G) n' ((m' : Int) + 1) (blocksOf l1 ++ [[(n' : Int) + (m' : Int)]]), ?_, ?_⟩
    · obtain ⟨t1', vb, et, ht, ttb⟩ := id d1.1
      obtain rfl := V.ref.inj et
      refine ⟨_, rfl, t1, _, 0, .int (n' : Int), rfl, rfl, .inl (.inl ht), rfl, _, rfl, t1, _, 1, .int (m' : Int), rfl, rfl, .inl (.inl ht), rfl, _, _, rfl, rfl, ?_⟩
      refine ⟨_, rfl, t1, _, 2, vb, rfl, rfl, .inl (.inl ht), rfl, _, rfl, t1, _, 0, .int (n' : Int), rfl, rfl, .inl (.inl ht), rfl, _, rfl, t1, _, 1, .int (m' : Int), rfl, rfl, .inl (.inl ht), rfl, _, _, rfl, rfl, ?_⟩
      refine ⟨(by show 1 ≤ sizeLine; omega), fun q1 nq1 => ⟨(by show 1 ≤ sizeLine; omega), fun q2 nq2 => ?_⟩⟩
      have w1 := same_upd (o := .tup [.int ((n' : Int) + (m' : Int))]) nq1
      have w2 := same_upd (o := .tup [.ref q1]) nq2
      have s12 := Same.trans w1 w2
      refine ⟨blocksOf l1, [[(n' : Int) + (m' : Int)]], ?_, ⟨q2, [.ref q1], rfl, upd_same, .cons ⟨q1, rfl, w2 _ _ upd_same⟩ .nil⟩, by show _ + 1 ≤ _; omega, fun vv H19 s19 tt => ?_⟩
      · exact ttb.same s12
      · refine ⟨(by show 3 ≤ sizeLine; omega), fun G nG => ?_⟩
        have w5 := same_upd (o := .tup [.int (n' : Int), .int ((m' : Int) + 1), vv]) nG
        have s := Same.trans s12 (Same.trans s19 w5)
        refine ⟨G, rfl, k18.same s, d1.same s, dB.same s, G, vv, rfl, upd_same, tt.same w5⟩
    clear k18 d1 dB
    rintro σ H19 ⟨G, rfl, k19, d1, dB, dG⟩
    have dgG : IsDg (n' : Int) ((m' : Int) + 1) (blocksOf l1 ++ [[(n' : Int) + (m' : Int)]]) := d1.dg.more1 (by omega) (by omega)
    refine ⟨fun σ H' => σ = [some (.ref sc), some (.ref r), some (.ref x), some (.str z), some (.int (n : Int)), some (.int (m : Int)), some (.ref L), some (.ref t1), some v2, some (.ref T), some (.ref U), some (.ref PL), v12, v13, v14, some (.ref B), some (.ref G), none, none, none] ∧ K48 H' r x p d ds4, ?_, ?_⟩
    · have okB : DgOk (n : Int) (m : Int) [[5, 5]] := Few.ok (bs := [[5, 5]]) ⟨by decide, fun b hb => by rw [List.mem_singleton.mp hb]; decide⟩ (by omega) (by omega)
      have okG : DgOk (n' : Int) ((m' : Int) + 1) (blocksOf l1 ++ [[(n' : Int) + (m' : Int)]]) := (dgG.few.more (by decide)).ok (by omega) (by omega)
      refine ⟨_, rfl, _, rfl, .ref B, .ref t1, n, m, n', m', _, _, rfl, dB, okB, d1.1, d1.ok, fun _ H20 s20 => ?_, fun h => absurd h bad_no, fun h => absurd h bad_no, fun h => absurd h bad_no⟩
      refine ⟨rfl, _, rfl, if_neg_of (nneV rfl) ?_⟩
      refine ⟨_, rfl, _, rfl, .ref G, .ref B, n', (m' : Int) + 1, n, m, _, _, rfl, dG.same s20, okG, dB.same s20, okB, fun h => absurd dgG h, fun _ _ H21 s21 => ?_, fun _ h => absurd h bad_no, fun _ h => absurd h bad_no⟩
      refine ⟨rfl, _, rfl, if_neg_of (nneV rfl) ?_⟩
      have s19 := Same.trans s20 s21
      refine ⟨_, rfl, _, rfl, .ref t1, .ref G, n', m', n', (m' : Int) + 1, _, _, rfl, (d1.same s19).1, d1.ok, dG.same s19, okG, fun h => absurd d1.dg h, fun _ h => absurd dgG h, fun _ _ _ H22 s22 => ?_, fun _ _ _ h => absurd h (by omega)⟩
      refine ⟨rfl, _, rfl, if_neg_of (nneV rfl) ?_⟩
      exact ⟨rfl, k19.same (Same.trans s19 s22)⟩
    clear k19 d1 dB dG
    rintro σ H20 ⟨rfl, k20⟩
    have both : ∀ {H' : Hp} {Q2 : VK} {z : Str} {n m way : Int} {R0 R1 : Prop}, (∀ R, TellC H' Q2 z n m R) → ((way = 0 ∧ TellC H' Q2 z n m R0) ∨ (way ≠ 0 ∧ (isW p d = false → ∀ H2, Same H' H2 → Q2 (.str "!world") H2) ∧ (isW p d = true → TellC H' Q2 z n m R1))) := fun {H' Q2 z n m way R0 R1} h => by
      by_cases c : way = 0
      · exact .inl ⟨c, h _⟩
      · exact .inr ⟨c, fun z => (nomatch hW.symm.trans z), fun _ => h _⟩
    have tFam : ∀ {H' : Hp} {Q2 : VK} {n m : Int}, (∀ H2, Same H' H2 → Q2 (.str "!family") H2) → ∀ R, TellC H' Q2 "flat" n m R := fun h R => ⟨fun _ => h, fun h => absurd h fams_flat, fun h => absurd h fams_flat⟩
    have tNum : ∀ {H' : Hp} {Q2 : VK} {z : Str} {n m : Int}, z ∈ fams → siz n m = false → (∀ H2, Same H' H2 → Q2 (.str "!number") H2) → ∀ R, TellC H' Q2 z n m R := fun mz e h R => ⟨fun h => absurd mz h, fun _ _ => h, fun _ c => (nomatch e.symm.trans c)⟩
    have tBig : ∀ {H' : Hp} {Q2 : VK} {z : Str} {n m : Int}, z ∈ fams → siz n m = true → 250 < cntV z n.toNat m.toNat → (∀ H2, Same H' H2 → Q2 (.str "!large") H2) → ∀ R, TellC H' Q2 z n m R := fun mz e c h R => ⟨fun h => absurd mz h, fun _ c => (nomatch e.symm.trans c), fun _ _ => ⟨fun _ => h, fun l => absurd c (by omega)⟩⟩
    refine ⟨fun σ H' => ∃ v17 : Option V, σ = [some (.ref sc), some (.ref r), some (.ref x), some (.str z), some (.int (n : Int)), some (.int (m : Int)), some (.ref L), some (.ref t1), some v2, some (.ref T), some (.ref U), some (.ref PL), v12, v13, v14, some (.ref B), some (.ref G), v17, none, none] ∧ K48 H' r x p d ds4, ?_, ?_⟩
    · refine ⟨2, rfl, by decide, by decide, for_range (lo := 0) (n := 2) (fun i σ H' => ∃ v17 : Option V, σ = [some (.ref sc), some (.ref r), some (.ref x), some (.str z), some (.int (n : Int)), some (.int (m : Int)), some (.ref L), some (.ref t1), some v2, some (.ref T), some (.ref U), some (.ref PL), v12, v13, v14, some (.ref B), some (.ref G), v17, none, none] ∧ K48 H' r x p d ds4)
        ⟨none, rfl, k20⟩ (fun i σ H21 hi hP => ?_) (fun σ H21 hP => hP)⟩
      obtain ⟨v17, rfl, k21⟩ := hP
      refine ⟨_, rfl, _, rfl, _, rfl, x, p, d, _, "flat", -1, 0, rfl, .inl (.inl k21.hx), both (tFam fun H22 s22 => ?_)⟩
      refine ⟨rfl, _, rfl, if_neg_of (nneV rfl) ?_⟩
      have k22 := k21.same s22
      refine ⟨_, rfl, _, rfl, _, rfl, _, rfl, x, p, d, _, z, -1, 0, rfl, .inl (.inl k22.hx), both (tNum mz (by decide) fun H23 s23 => ?_)⟩
      refine ⟨rfl, _, rfl, if_neg_of (nneV rfl) ?_⟩
      have k23 := k22.same s23
      clear k21 k22 s22 s23
      refine ⟨_, rfl, _, rfl, _, rfl, x, p, d, _, z, 9, 0, rfl, .inl (.inl k23.hx), both (tNum mz (by decide) fun H24 s24 => ?_)⟩
      refine ⟨rfl, _, rfl, if_neg_of (nneV rfl) ?_⟩
      have k24 := k23.same s24
      refine ⟨_, rfl, _, rfl, x, p, d, _, "parts", 5, 8, rfl, .inl (.inl k24.hx), both (tNum fams_parts (by decide) fun H25 s25 => ?_)⟩
      refine ⟨rfl, _, rfl, if_neg_of (nneV rfl) ?_⟩
      have k25 := k24.same s25
      clear k23 k24 s24 s25
      refine ⟨_, rfl, _, rfl, x, p, d, _, "parts", 3, 4, rfl, .inl (.inl k25.hx), both (tBig fams_parts (by decide) big_parts fun H26 s26 => ?_)⟩
      refine ⟨rfl, _, rfl, if_neg_of (nneV rfl) ?_⟩
      have k26 := k25.same s26
      refine ⟨_, rfl, _, rfl, x, p, d, _, "threads", 6, 6, rfl, .inl (.inl k26.hx), both (tBig fams_threads (by decide) big_threads fun H27 s27 => ?_)⟩
      refine ⟨rfl, _, rfl, if_neg_of (nneV rfl) ?_⟩
      exact ⟨_, rfl, k26.same s27⟩
    clear k20
    rintro σ H21 ⟨v17, rfl, k21⟩
    refine ⟨(by show 2 ≤ sizeLine; omega), fun q1 nq1 => ?_⟩
    refine ⟨_, rfl, q1, 4, 0, 1, "flat", -1, 0, rfl, .inl (.inl upd_same), .inr ⟨by decide, fun _ H22 s22 => ?_, fun h => absurd h (by decide +kernel)⟩⟩
    refine ⟨rfl, _, rfl, (by show 2 ≤ sizeLine; omega), fun q2 nq2 => ?_⟩
    refine ⟨q2, 0, 21, 1, "flat", 9, 9, rfl, .inl (.inl upd_same), .inr ⟨by decide, fun _ H23 s23 => ?_, fun h => absurd h (by decide +kernel)⟩⟩
    exact ⟨rfl, q H23⟩
end

theorem all_mk {P : Program} {w : World} {K : PySem.W.Frag} {h : Heap} {mg : Str → Option Value} {fa : Addr} (X : K.In h) (G : h.Ns mainGlobals mg) (hfa : mg "law" = some (.ref fa))
    {f_is_world : Addr} {od_is_world an_is_world : Option Addr} {sl_is_world : Array (Option Value)} {oc_is_world kV_is_world dc_is_world pm_is_world cd_is_world ct_is_world : Value}
    {f_law_number : Addr} {od_law_number an_law_number : Option Addr} {sl_law_number : Array (Option Value)} {oc_law_number kV_law_number dc_law_number pm_law_number cd_law_number ct_law_number : Value}
    {f_law_next : Addr} {od_law_next an_law_next : Option Addr} {sl_law_next : Array (Option Value)} {oc_law_next kV_law_next dc_law_next pm_law_next cd_law_next ct_law_next : Value}
    {f_law_draws : Addr} {od_law_draws an_law_draws : Option Addr} {sl_law_draws : Array (Option Value)} {oc_law_draws kV_law_draws dc_law_draws pm_law_draws cd_law_draws ct_law_draws : Value}
    {f_check_world : Addr} {od_check_world an_check_world : Option Addr} {sl_check_world : Array (Option Value)} {oc_check_world kV_check_world dc_check_world pm_check_world cd_check_world ct_check_world : Value}
    {f_is_number : Addr} {od_is_number an_is_number : Option Addr} {sl_is_number : Array (Option Value)} {oc_is_number kV_is_number dc_is_number pm_is_number cd_is_number ct_is_number : Value}
    {f_check_number : Addr} {od_check_number an_check_number : Option Addr} {sl_check_number : Array (Option Value)} {oc_check_number kV_check_number dc_check_number pm_check_number cd_check_number ct_check_number : Value}
    {f_lowest_ : Addr} {od_lowest_ an_lowest_ : Option Addr} {sl_lowest_ : Array (Option Value)} {oc_lowest_ kV_lowest_ dc_lowest_ pm_lowest_ cd_lowest_ ct_lowest_ : Value}
    {f_inverse_ : Addr} {od_inverse_ an_inverse_ : Option Addr} {sl_inverse_ : Array (Option Value)} {oc_inverse_ kV_inverse_ dc_inverse_ pm_inverse_ cd_inverse_ ct_inverse_ : Value}
    {dT_number : Addr}
    {f_number : Addr} {od_number an_number : Option Addr} {sl_number : Array (Option Value)} {oc_number kV_number dc_number pm_number cd_number ct_number : Value}
    {f_check_two_ : Addr} {od_check_two_ an_check_two_ : Option Addr} {sl_check_two_ : Array (Option Value)} {oc_check_two_ kV_check_two_ dc_check_two_ pm_check_two_ cd_check_two_ ct_check_two_ : Value}
    {f_times : Addr} {od_times an_times : Option Addr} {sl_times : Array (Option Value)} {oc_times kV_times dc_times pm_times cd_times ct_times : Value}
    {f_power : Addr} {od_power an_power : Option Addr} {sl_power : Array (Option Value)} {oc_power kV_power dc_power pm_power cd_power ct_power : Value}
    {f_loop_worth : Addr} {od_loop_worth an_loop_worth : Option Addr} {sl_loop_worth : Array (Option Value)} {oc_loop_worth kV_loop_worth dc_loop_worth pm_loop_worth cd_loop_worth ct_loop_worth : Value}
    {f_is_size_ : Addr} {od_is_size_ an_is_size_ : Option Addr} {sl_is_size_ : Array (Option Value)} {oc_is_size_ kV_is_size_ dc_is_size_ pm_is_size_ cd_is_size_ ct_is_size_ : Value}
    {f_check_size_ : Addr} {od_check_size_ an_check_size_ : Option Addr} {sl_check_size_ : Array (Option Value)} {oc_check_size_ kV_check_size_ dc_check_size_ pm_check_size_ cd_check_size_ ct_check_size_ : Value}
    {f_is_diagram : Addr} {od_is_diagram an_is_diagram : Option Addr} {sl_is_diagram : Array (Option Value)} {oc_is_diagram kV_is_diagram dc_is_diagram pm_is_diagram cd_is_diagram ct_is_diagram : Value}
    {f_check_diagram : Addr} {od_check_diagram an_check_diagram : Option Addr} {sl_check_diagram : Array (Option Value)} {oc_check_diagram kV_check_diagram dc_check_diagram pm_check_diagram cd_check_diagram ct_check_diagram : Value}
    {f_labels : Addr} {od_labels an_labels : Option Addr} {sl_labels : Array (Option Value)} {oc_labels kV_labels dc_labels pm_labels cd_labels ct_labels : Value}
    {f_from_labels : Addr} {od_from_labels an_from_labels : Option Addr} {sl_from_labels : Array (Option Value)} {oc_from_labels kV_from_labels dc_from_labels pm_from_labels cd_from_labels ct_from_labels : Value}
    {f_check_family : Addr} {od_check_family an_check_family : Option Addr} {sl_check_family : Array (Option Value)} {oc_check_family kV_check_family dc_check_family pm_check_family cd_check_family ct_check_family : Value}
    {f_is_strand_ : Addr} {od_is_strand_ an_is_strand_ : Option Addr} {sl_is_strand_ : Array (Option Value)} {oc_is_strand_ kV_is_strand_ dc_is_strand_ pm_is_strand_ cd_is_strand_ ct_is_strand_ : Value}
    {f_is_block_size_ : Addr} {od_is_block_size_ an_is_block_size_ : Option Addr} {sl_is_block_size_ : Array (Option Value)} {oc_is_block_size_ kV_is_block_size_ dc_is_block_size_ pm_is_block_size_ cd_is_block_size_ ct_is_block_size_ : Value}
    {f_is_block_of_ : Addr} {od_is_block_of_ an_is_block_of_ : Option Addr} {sl_is_block_of_ : Array (Option Value)} {oc_is_block_of_ kV_is_block_of_ dc_is_block_of_ pm_is_block_of_ cd_is_block_of_ ct_is_block_of_ : Value}
    {f_is_in : Addr} {od_is_in an_is_in : Option Addr} {sl_is_in : Array (Option Value)} {oc_is_in kV_is_in dc_is_in pm_is_in cd_is_in ct_is_in : Value}
    {f_counted_by_last_ : Addr} {od_counted_by_last_ an_counted_by_last_ : Option Addr} {sl_counted_by_last_ : Array (Option Value)} {oc_counted_by_last_ kV_counted_by_last_ dc_counted_by_last_ pm_counted_by_last_ cd_counted_by_last_ ct_counted_by_last_ : Value}
    {f_counted : Addr} {od_counted an_counted : Option Addr} {sl_counted : Array (Option Value)} {oc_counted kV_counted dc_counted pm_counted cd_counted ct_counted : Value}
    {f_may_follow_ : Addr} {od_may_follow_ an_may_follow_ : Option Addr} {sl_may_follow_ : Array (Option Value)} {oc_may_follow_ kV_may_follow_ dc_may_follow_ pm_may_follow_ cd_may_follow_ ct_may_follow_ : Value}
    {f_label_rows_ : Addr} {od_label_rows_ an_label_rows_ : Option Addr} {sl_label_rows_ : Array (Option Value)} {oc_label_rows_ kV_label_rows_ dc_label_rows_ pm_label_rows_ cd_label_rows_ ct_label_rows_ : Value}
    {f_listed : Addr} {od_listed an_listed : Option Addr} {sl_listed : Array (Option Value)} {oc_listed kV_listed dc_listed pm_listed cd_listed ct_listed : Value}
    {f_root_ : Addr} {od_root_ an_root_ : Option Addr} {sl_root_ : Array (Option Value)} {oc_root_ kV_root_ dc_root_ pm_root_ cd_root_ ct_root_ : Value}
    {f_piece_marks : Addr} {od_piece_marks an_piece_marks : Option Addr} {sl_piece_marks : Array (Option Value)} {oc_piece_marks kV_piece_marks dc_piece_marks pm_piece_marks cd_piece_marks ct_piece_marks : Value}
    {f_hidden_count : Addr} {od_hidden_count an_hidden_count : Option Addr} {sl_hidden_count : Array (Option Value)} {oc_hidden_count kV_hidden_count dc_hidden_count pm_hidden_count cd_hidden_count ct_hidden_count : Value}
    {f_put : Addr} {od_put an_put : Option Addr} {sl_put : Array (Option Value)} {oc_put kV_put dc_put pm_put cd_put ct_put : Value}
    {f_closed_end : Addr} {od_closed_end an_closed_end : Option Addr} {sl_closed_end : Array (Option Value)} {oc_closed_end kV_closed_end dc_closed_end pm_closed_end cd_closed_end ct_closed_end : Value}
    {f_closing : Addr} {od_closing an_closing : Option Addr} {sl_closing : Array (Option Value)} {oc_closing kV_closing dc_closing pm_closing cd_closing ct_closing : Value}
    {f_over : Addr} {od_over an_over : Option Addr} {sl_over : Array (Option Value)} {oc_over kV_over dc_over pm_over cd_over ct_over : Value}
    {f_piece_count : Addr} {od_piece_count an_piece_count : Option Addr} {sl_piece_count : Array (Option Value)} {oc_piece_count kV_piece_count dc_piece_count pm_piece_count cd_piece_count ct_piece_count : Value}
    {f_law_marked : Addr} {od_law_marked an_law_marked : Option Addr} {sl_law_marked : Array (Option Value)} {oc_law_marked kV_law_marked dc_law_marked pm_law_marked cd_law_marked ct_law_marked : Value}
    {f_law_belongs : Addr} {od_law_belongs an_law_belongs : Option Addr} {sl_law_belongs : Array (Option Value)} {oc_law_belongs kV_law_belongs dc_law_belongs pm_law_belongs cd_law_belongs ct_law_belongs : Value}
    {f_law_all : Addr} {od_law_all an_law_all : Option Addr} {sl_law_all : Array (Option Value)} {oc_law_all kV_law_all dc_law_all pm_law_all cd_law_all ct_law_all : Value}
    {f_law_marks : Addr} {od_law_marks an_law_marks : Option Addr} {sl_law_marks : Array (Option Value)} {oc_law_marks kV_law_marks dc_law_marks pm_law_marks cd_law_marks ct_law_marks : Value}
    {f_law_glued : Addr} {od_law_glued an_law_glued : Option Addr} {sl_law_glued : Array (Option Value)} {oc_law_glued kV_law_glued dc_law_glued pm_law_glued cd_law_glued ct_law_glued : Value}
    {f_law_kinds : Addr} {od_law_kinds an_law_kinds : Option Addr} {sl_law_kinds : Array (Option Value)} {oc_law_kinds kV_law_kinds dc_law_kinds pm_law_kinds cd_law_kinds ct_law_kinds : Value}
    {f_joined_pieces : Addr} {od_joined_pieces an_joined_pieces : Option Addr} {sl_joined_pieces : Array (Option Value)} {oc_joined_pieces kV_joined_pieces dc_joined_pieces pm_joined_pieces cd_joined_pieces ct_joined_pieces : Value}
    {f_joined : Addr} {od_joined an_joined : Option Addr} {sl_joined : Array (Option Value)} {oc_joined kV_joined dc_joined pm_joined cd_joined ct_joined : Value}
    {f_loop_powers : Addr} {od_loop_powers an_loop_powers : Option Addr} {sl_loop_powers : Array (Option Value)} {oc_loop_powers kV_loop_powers dc_loop_powers pm_loop_powers cd_loop_powers ct_loop_powers : Value}
    {f_closings : Addr} {od_closings an_closings : Option Addr} {sl_closings : Array (Option Value)} {oc_closings kV_closings dc_closings pm_closings cd_closings ct_closings : Value}
    {f_worths : Addr} {od_worths an_worths : Option Addr} {sl_worths : Array (Option Value)} {oc_worths kV_worths dc_worths pm_worths cd_worths ct_worths : Value}
    {f_law_world : Addr} {od_law_world an_law_world : Option Addr} {sl_law_world : Array (Option Value)} {oc_law_world kV_law_world dc_law_world pm_law_world cd_law_world ct_law_world : Value}
    {f_law_family : Addr} {od_law_family an_law_family : Option Addr} {sl_law_family : Array (Option Value)} {oc_law_family kV_law_family dc_law_family pm_law_family cd_law_family ct_law_family : Value}
    {f_law_shape : Addr} {od_law_shape an_law_shape : Option Addr} {sl_law_shape : Array (Option Value)} {oc_law_shape kV_law_shape dc_law_shape pm_law_shape cd_law_shape ct_law_shape : Value}
    {f_law_times : Addr} {od_law_times an_law_times : Option Addr} {sl_law_times : Array (Option Value)} {oc_law_times kV_law_times dc_law_times pm_law_times cd_law_times ct_law_times : Value}
    {f_law_power : Addr} {od_law_power an_law_power : Option Addr} {sl_law_power : Array (Option Value)} {oc_law_power kV_law_power dc_law_power pm_law_power cd_law_power ct_law_power : Value}
    {f_law_joined : Addr} {od_law_joined an_law_joined : Option Addr} {sl_law_joined : Array (Option Value)} {oc_law_joined kV_law_joined dc_law_joined pm_law_joined cd_law_joined ct_law_joined : Value}
    {f_law_kind : Addr} {od_law_kind an_law_kind : Option Addr} {sl_law_kind : Array (Option Value)} {oc_law_kind kV_law_kind dc_law_kind pm_law_kind cd_law_kind ct_law_kind : Value}
    {f_law_told : Addr} {od_law_told an_law_told : Option Addr} {sl_law_told : Array (Option Value)} {oc_law_told kV_law_told dc_law_told pm_law_told cd_law_told ct_law_told : Value}
    {f_law_pair : Addr} {od_law_pair an_law_pair : Option Addr} {sl_law_pair : Array (Option Value)} {oc_law_pair kV_law_pair dc_law_pair pm_law_pair cd_law_pair ct_law_pair : Value}
    {f_law : Addr} {od_law an_law : Option Addr} {sl_law : Array (Option Value)} {oc_law kV_law dc_law pm_law cd_law ct_law : Value}
    {aP : Addr} {ddP : Option Addr} {nP : Nat} {slP : Array (Option Value)} {u2 u3 u5 u7 u11 u13 u17 u19 u23 u29 u31 : Tok}
    {CW : Addr}
    {CN : Addr}
    {CB : Addr}
    {CD : Addr}
    {CT : Addr}
    {CF : Addr}
    {dd_number : Option Addr} {un : Tok} {nn_number : Nat} {sd_number : Array (Option Value)}
    {tm_MOST_ON_A_SIDE : Tok}
    {tm_MOST_POINTS : Tok}
    {tm_MOST_LISTED : Tok}
    {tm_MOST_POWER : Tok}
    {aO : Addr} {ddO : Option Addr} {nO : Nat} {slO : Array (Option Value)} {uo1 uo2 : Tok}
    {aF : Addr} {ddF : Option Addr} {nF : Nat} {slF : Array (Option Value)} {uf0 uf1 uf2 uf3 uf4 uf5 : Tok}
    {CE : Addr}
    (a_is_world : PySem.W.nsIn K mainGlobals "is_world" = some (some (.ref f_is_world))) (l_is_world : K.lookup f_is_world = some ⟨oc_is_world, od_is_world, .func (PySem.W.fnOf "is_world" "is_world" (defArgs s_is_world) (defBody s_is_world) (defScope s_is_world) .none kV_is_world dc_is_world pm_is_world an_is_world cd_is_world ct_is_world), sl_is_world⟩) (c_is_world : PySem.W.codeIn K cd_is_world "is_world" = true) (k_is_world : PySem.W.keepIn K (.ref f_is_world) = true)
    (a_law_number : PySem.W.nsIn K mainGlobals "_law_number" = some (some (.ref f_law_number))) (l_law_number : K.lookup f_law_number = some ⟨oc_law_number, od_law_number, .func (PySem.W.fnOf "_law_number" "_law_number" (defArgs s_law_number) (defBody s_law_number) (defScope s_law_number) .none kV_law_number dc_law_number pm_law_number an_law_number cd_law_number ct_law_number), sl_law_number⟩) (c_law_number : PySem.W.codeIn K cd_law_number "_law_number" = true) (k_law_number : PySem.W.keepIn K (.ref f_law_number) = true)
    (a_law_next : PySem.W.nsIn K mainGlobals "_law_next" = some (some (.ref f_law_next))) (l_law_next : K.lookup f_law_next = some ⟨oc_law_next, od_law_next, .func (PySem.W.fnOf "_law_next" "_law_next" (defArgs s_law_next) (defBody s_law_next) (defScope s_law_next) .none kV_law_next dc_law_next pm_law_next an_law_next cd_law_next ct_law_next), sl_law_next⟩) (c_law_next : PySem.W.codeIn K cd_law_next "_law_next" = true) (k_law_next : PySem.W.keepIn K (.ref f_law_next) = true)
    (a_law_draws : PySem.W.nsIn K mainGlobals "_law_draws" = some (some (.ref f_law_draws))) (l_law_draws : K.lookup f_law_draws = some ⟨oc_law_draws, od_law_draws, .func (PySem.W.fnOf "_law_draws" "_law_draws" (defArgs s_law_draws) (defBody s_law_draws) (defScope s_law_draws) .none kV_law_draws dc_law_draws pm_law_draws an_law_draws cd_law_draws ct_law_draws), sl_law_draws⟩) (c_law_draws : PySem.W.codeIn K cd_law_draws "_law_draws" = true) (k_law_draws : PySem.W.keepIn K (.ref f_law_draws) = true)
    (a_check_world : PySem.W.nsIn K mainGlobals "check_world" = some (some (.ref f_check_world))) (l_check_world : K.lookup f_check_world = some ⟨oc_check_world, od_check_world, .func (PySem.W.fnOf "check_world" "check_world" (defArgs s_check_world) (defBody s_check_world) (defScope s_check_world) .none kV_check_world dc_check_world pm_check_world an_check_world cd_check_world ct_check_world), sl_check_world⟩) (c_check_world : PySem.W.codeIn K cd_check_world "check_world" = true) (k_check_world : PySem.W.keepIn K (.ref f_check_world) = true)
    (a_is_number : PySem.W.nsIn K mainGlobals "is_number" = some (some (.ref f_is_number))) (l_is_number : K.lookup f_is_number = some ⟨oc_is_number, od_is_number, .func (PySem.W.fnOf "is_number" "is_number" (defArgs s_is_number) (defBody s_is_number) (defScope s_is_number) .none kV_is_number dc_is_number pm_is_number an_is_number cd_is_number ct_is_number), sl_is_number⟩) (c_is_number : PySem.W.codeIn K cd_is_number "is_number" = true) (k_is_number : PySem.W.keepIn K (.ref f_is_number) = true)
    (a_check_number : PySem.W.nsIn K mainGlobals "check_number" = some (some (.ref f_check_number))) (l_check_number : K.lookup f_check_number = some ⟨oc_check_number, od_check_number, .func (PySem.W.fnOf "check_number" "check_number" (defArgs s_check_number) (defBody s_check_number) (defScope s_check_number) .none kV_check_number dc_check_number pm_check_number an_check_number cd_check_number ct_check_number), sl_check_number⟩) (c_check_number : PySem.W.codeIn K cd_check_number "check_number" = true) (k_check_number : PySem.W.keepIn K (.ref f_check_number) = true)
    (a_lowest_ : PySem.W.nsIn K mainGlobals "_lowest" = some (some (.ref f_lowest_))) (l_lowest_ : K.lookup f_lowest_ = some ⟨oc_lowest_, od_lowest_, .func (PySem.W.fnOf "_lowest" "_lowest" (defArgs s_lowest_) (defBody s_lowest_) (defScope s_lowest_) .none kV_lowest_ dc_lowest_ pm_lowest_ an_lowest_ cd_lowest_ ct_lowest_), sl_lowest_⟩) (c_lowest_ : PySem.W.codeIn K cd_lowest_ "_lowest" = true) (k_lowest_ : PySem.W.keepIn K (.ref f_lowest_) = true)
    (a_inverse_ : PySem.W.nsIn K mainGlobals "_inverse" = some (some (.ref f_inverse_))) (l_inverse_ : K.lookup f_inverse_ = some ⟨oc_inverse_, od_inverse_, .func (PySem.W.fnOf "_inverse" "_inverse" (defArgs s_inverse_) (defBody s_inverse_) (defScope s_inverse_) .none kV_inverse_ dc_inverse_ pm_inverse_ an_inverse_ cd_inverse_ ct_inverse_), sl_inverse_⟩) (c_inverse_ : PySem.W.codeIn K cd_inverse_ "_inverse" = true) (k_inverse_ : PySem.W.keepIn K (.ref f_inverse_) = true)
    (a_number : PySem.W.nsIn K mainGlobals "number" = some (some (.ref f_number))) (l_number : K.lookup f_number = some ⟨oc_number, od_number, .func (PySem.W.fnOf "number" "number" (defArgs s_number) (defBody s_number) (defScope s_number) (.ref dT_number) kV_number dc_number pm_number an_number cd_number ct_number), sl_number⟩) (c_number : PySem.W.codeIn K cd_number "number" = true) (k_number : PySem.W.keepIn K (.ref f_number) = true)
    (a_check_two_ : PySem.W.nsIn K mainGlobals "_check_two" = some (some (.ref f_check_two_))) (l_check_two_ : K.lookup f_check_two_ = some ⟨oc_check_two_, od_check_two_, .func (PySem.W.fnOf "_check_two" "_check_two" (defArgs s_check_two_) (defBody s_check_two_) (defScope s_check_two_) .none kV_check_two_ dc_check_two_ pm_check_two_ an_check_two_ cd_check_two_ ct_check_two_), sl_check_two_⟩) (c_check_two_ : PySem.W.codeIn K cd_check_two_ "_check_two" = true) (k_check_two_ : PySem.W.keepIn K (.ref f_check_two_) = true)
    (a_times : PySem.W.nsIn K mainGlobals "times" = some (some (.ref f_times))) (l_times : K.lookup f_times = some ⟨oc_times, od_times, .func (PySem.W.fnOf "times" "times" (defArgs s_times) (defBody s_times) (defScope s_times) .none kV_times dc_times pm_times an_times cd_times ct_times), sl_times⟩) (c_times : PySem.W.codeIn K cd_times "times" = true) (k_times : PySem.W.keepIn K (.ref f_times) = true)
    (a_power : PySem.W.nsIn K mainGlobals "power" = some (some (.ref f_power))) (l_power : K.lookup f_power = some ⟨oc_power, od_power, .func (PySem.W.fnOf "power" "power" (defArgs s_power) (defBody s_power) (defScope s_power) .none kV_power dc_power pm_power an_power cd_power ct_power), sl_power⟩) (c_power : PySem.W.codeIn K cd_power "power" = true) (k_power : PySem.W.keepIn K (.ref f_power) = true)
    (a_loop_worth : PySem.W.nsIn K mainGlobals "loop_worth" = some (some (.ref f_loop_worth))) (l_loop_worth : K.lookup f_loop_worth = some ⟨oc_loop_worth, od_loop_worth, .func (PySem.W.fnOf "loop_worth" "loop_worth" (defArgs s_loop_worth) (defBody s_loop_worth) (defScope s_loop_worth) .none kV_loop_worth dc_loop_worth pm_loop_worth an_loop_worth cd_loop_worth ct_loop_worth), sl_loop_worth⟩) (c_loop_worth : PySem.W.codeIn K cd_loop_worth "loop_worth" = true) (k_loop_worth : PySem.W.keepIn K (.ref f_loop_worth) = true)
    (a_is_size_ : PySem.W.nsIn K mainGlobals "_is_size" = some (some (.ref f_is_size_))) (l_is_size_ : K.lookup f_is_size_ = some ⟨oc_is_size_, od_is_size_, .func (PySem.W.fnOf "_is_size" "_is_size" (defArgs s_is_size_) (defBody s_is_size_) (defScope s_is_size_) .none kV_is_size_ dc_is_size_ pm_is_size_ an_is_size_ cd_is_size_ ct_is_size_), sl_is_size_⟩) (c_is_size_ : PySem.W.codeIn K cd_is_size_ "_is_size" = true) (k_is_size_ : PySem.W.keepIn K (.ref f_is_size_) = true)
    (a_check_size_ : PySem.W.nsIn K mainGlobals "_check_size" = some (some (.ref f_check_size_))) (l_check_size_ : K.lookup f_check_size_ = some ⟨oc_check_size_, od_check_size_, .func (PySem.W.fnOf "_check_size" "_check_size" (defArgs s_check_size_) (defBody s_check_size_) (defScope s_check_size_) .none kV_check_size_ dc_check_size_ pm_check_size_ an_check_size_ cd_check_size_ ct_check_size_), sl_check_size_⟩) (c_check_size_ : PySem.W.codeIn K cd_check_size_ "_check_size" = true) (k_check_size_ : PySem.W.keepIn K (.ref f_check_size_) = true)
    (a_is_diagram : PySem.W.nsIn K mainGlobals "is_diagram" = some (some (.ref f_is_diagram))) (l_is_diagram : K.lookup f_is_diagram = some ⟨oc_is_diagram, od_is_diagram, .func (PySem.W.fnOf "is_diagram" "is_diagram" (defArgs s_is_diagram) (defBody s_is_diagram) (defScope s_is_diagram) .none kV_is_diagram dc_is_diagram pm_is_diagram an_is_diagram cd_is_diagram ct_is_diagram), sl_is_diagram⟩) (c_is_diagram : PySem.W.codeIn K cd_is_diagram "is_diagram" = true) (k_is_diagram : PySem.W.keepIn K (.ref f_is_diagram) = true)
    (a_check_diagram : PySem.W.nsIn K mainGlobals "check_diagram" = some (some (.ref f_check_diagram))) (l_check_diagram : K.lookup f_check_diagram = some ⟨oc_check_diagram, od_check_diagram, .func (PySem.W.fnOf "check_diagram" "check_diagram" (defArgs s_check_diagram) (defBody s_check_diagram) (defScope s_check_diagram) .none kV_check_diagram dc_check_diagram pm_check_diagram an_check_diagram cd_check_diagram ct_check_diagram), sl_check_diagram⟩) (c_check_diagram : PySem.W.codeIn K cd_check_diagram "check_diagram" = true) (k_check_diagram : PySem.W.keepIn K (.ref f_check_diagram) = true)
    (a_labels : PySem.W.nsIn K mainGlobals "labels" = some (some (.ref f_labels))) (l_labels : K.lookup f_labels = some ⟨oc_labels, od_labels, .func (PySem.W.fnOf "labels" "labels" (defArgs s_labels) (defBody s_labels) (defScope s_labels) .none kV_labels dc_labels pm_labels an_labels cd_labels ct_labels), sl_labels⟩) (c_labels : PySem.W.codeIn K cd_labels "labels" = true) (k_labels : PySem.W.keepIn K (.ref f_labels) = true)
    (a_from_labels : PySem.W.nsIn K mainGlobals "from_labels" = some (some (.ref f_from_labels))) (l_from_labels : K.lookup f_from_labels = some ⟨oc_from_labels, od_from_labels, .func (PySem.W.fnOf "from_labels" "from_labels" (defArgs s_from_labels) (defBody s_from_labels) (defScope s_from_labels) .none kV_from_labels dc_from_labels pm_from_labels an_from_labels cd_from_labels ct_from_labels), sl_from_labels⟩) (c_from_labels : PySem.W.codeIn K cd_from_labels "from_labels" = true) (k_from_labels : PySem.W.keepIn K (.ref f_from_labels) = true)
    (a_check_family : PySem.W.nsIn K mainGlobals "check_family" = some (some (.ref f_check_family))) (l_check_family : K.lookup f_check_family = some ⟨oc_check_family, od_check_family, .func (PySem.W.fnOf "check_family" "check_family" (defArgs s_check_family) (defBody s_check_family) (defScope s_check_family) .none kV_check_family dc_check_family pm_check_family an_check_family cd_check_family ct_check_family), sl_check_family⟩) (c_check_family : PySem.W.codeIn K cd_check_family "check_family" = true) (k_check_family : PySem.W.keepIn K (.ref f_check_family) = true)
    (a_is_strand_ : PySem.W.nsIn K mainGlobals "_is_strand" = some (some (.ref f_is_strand_))) (l_is_strand_ : K.lookup f_is_strand_ = some ⟨oc_is_strand_, od_is_strand_, .func (PySem.W.fnOf "_is_strand" "_is_strand" (defArgs s_is_strand_) (defBody s_is_strand_) (defScope s_is_strand_) .none kV_is_strand_ dc_is_strand_ pm_is_strand_ an_is_strand_ cd_is_strand_ ct_is_strand_), sl_is_strand_⟩) (c_is_strand_ : PySem.W.codeIn K cd_is_strand_ "_is_strand" = true) (k_is_strand_ : PySem.W.keepIn K (.ref f_is_strand_) = true)
    (a_is_block_size_ : PySem.W.nsIn K mainGlobals "_is_block_size" = some (some (.ref f_is_block_size_))) (l_is_block_size_ : K.lookup f_is_block_size_ = some ⟨oc_is_block_size_, od_is_block_size_, .func (PySem.W.fnOf "_is_block_size" "_is_block_size" (defArgs s_is_block_size_) (defBody s_is_block_size_) (defScope s_is_block_size_) .none kV_is_block_size_ dc_is_block_size_ pm_is_block_size_ an_is_block_size_ cd_is_block_size_ ct_is_block_size_), sl_is_block_size_⟩) (c_is_block_size_ : PySem.W.codeIn K cd_is_block_size_ "_is_block_size" = true) (k_is_block_size_ : PySem.W.keepIn K (.ref f_is_block_size_) = true)
    (a_is_block_of_ : PySem.W.nsIn K mainGlobals "_is_block_of" = some (some (.ref f_is_block_of_))) (l_is_block_of_ : K.lookup f_is_block_of_ = some ⟨oc_is_block_of_, od_is_block_of_, .func (PySem.W.fnOf "_is_block_of" "_is_block_of" (defArgs s_is_block_of_) (defBody s_is_block_of_) (defScope s_is_block_of_) .none kV_is_block_of_ dc_is_block_of_ pm_is_block_of_ an_is_block_of_ cd_is_block_of_ ct_is_block_of_), sl_is_block_of_⟩) (c_is_block_of_ : PySem.W.codeIn K cd_is_block_of_ "_is_block_of" = true) (k_is_block_of_ : PySem.W.keepIn K (.ref f_is_block_of_) = true)
    (a_is_in : PySem.W.nsIn K mainGlobals "is_in" = some (some (.ref f_is_in))) (l_is_in : K.lookup f_is_in = some ⟨oc_is_in, od_is_in, .func (PySem.W.fnOf "is_in" "is_in" (defArgs s_is_in) (defBody s_is_in) (defScope s_is_in) .none kV_is_in dc_is_in pm_is_in an_is_in cd_is_in ct_is_in), sl_is_in⟩) (c_is_in : PySem.W.codeIn K cd_is_in "is_in" = true) (k_is_in : PySem.W.keepIn K (.ref f_is_in) = true)
    (a_counted_by_last_ : PySem.W.nsIn K mainGlobals "_counted_by_last" = some (some (.ref f_counted_by_last_))) (l_counted_by_last_ : K.lookup f_counted_by_last_ = some ⟨oc_counted_by_last_, od_counted_by_last_, .func (PySem.W.fnOf "_counted_by_last" "_counted_by_last" (defArgs s_counted_by_last_) (defBody s_counted_by_last_) (defScope s_counted_by_last_) .none kV_counted_by_last_ dc_counted_by_last_ pm_counted_by_last_ an_counted_by_last_ cd_counted_by_last_ ct_counted_by_last_), sl_counted_by_last_⟩) (c_counted_by_last_ : PySem.W.codeIn K cd_counted_by_last_ "_counted_by_last" = true) (k_counted_by_last_ : PySem.W.keepIn K (.ref f_counted_by_last_) = true)
    (a_counted : PySem.W.nsIn K mainGlobals "counted" = some (some (.ref f_counted))) (l_counted : K.lookup f_counted = some ⟨oc_counted, od_counted, .func (PySem.W.fnOf "counted" "counted" (defArgs s_counted) (defBody s_counted) (defScope s_counted) .none kV_counted dc_counted pm_counted an_counted cd_counted ct_counted), sl_counted⟩) (c_counted : PySem.W.codeIn K cd_counted "counted" = true) (k_counted : PySem.W.keepIn K (.ref f_counted) = true)
    (a_may_follow_ : PySem.W.nsIn K mainGlobals "_may_follow" = some (some (.ref f_may_follow_))) (l_may_follow_ : K.lookup f_may_follow_ = some ⟨oc_may_follow_, od_may_follow_, .func (PySem.W.fnOf "_may_follow" "_may_follow" (defArgs s_may_follow_) (defBody s_may_follow_) (defScope s_may_follow_) .none kV_may_follow_ dc_may_follow_ pm_may_follow_ an_may_follow_ cd_may_follow_ ct_may_follow_), sl_may_follow_⟩) (c_may_follow_ : PySem.W.codeIn K cd_may_follow_ "_may_follow" = true) (k_may_follow_ : PySem.W.keepIn K (.ref f_may_follow_) = true)
    (a_label_rows_ : PySem.W.nsIn K mainGlobals "_label_rows" = some (some (.ref f_label_rows_))) (l_label_rows_ : K.lookup f_label_rows_ = some ⟨oc_label_rows_, od_label_rows_, .func (PySem.W.fnOf "_label_rows" "_label_rows" (defArgs s_label_rows_) (defBody s_label_rows_) (defScope s_label_rows_) .none kV_label_rows_ dc_label_rows_ pm_label_rows_ an_label_rows_ cd_label_rows_ ct_label_rows_), sl_label_rows_⟩) (c_label_rows_ : PySem.W.codeIn K cd_label_rows_ "_label_rows" = true) (k_label_rows_ : PySem.W.keepIn K (.ref f_label_rows_) = true)
    (a_listed : PySem.W.nsIn K mainGlobals "listed" = some (some (.ref f_listed))) (l_listed : K.lookup f_listed = some ⟨oc_listed, od_listed, .func (PySem.W.fnOf "listed" "listed" (defArgs s_listed) (defBody s_listed) (defScope s_listed) .none kV_listed dc_listed pm_listed an_listed cd_listed ct_listed), sl_listed⟩) (c_listed : PySem.W.codeIn K cd_listed "listed" = true) (k_listed : PySem.W.keepIn K (.ref f_listed) = true)
    (a_root_ : PySem.W.nsIn K mainGlobals "_root" = some (some (.ref f_root_))) (l_root_ : K.lookup f_root_ = some ⟨oc_root_, od_root_, .func (PySem.W.fnOf "_root" "_root" (defArgs s_root_) (defBody s_root_) (defScope s_root_) .none kV_root_ dc_root_ pm_root_ an_root_ cd_root_ ct_root_), sl_root_⟩) (c_root_ : PySem.W.codeIn K cd_root_ "_root" = true) (k_root_ : PySem.W.keepIn K (.ref f_root_) = true)
    (a_piece_marks : PySem.W.nsIn K mainGlobals "piece_marks" = some (some (.ref f_piece_marks))) (l_piece_marks : K.lookup f_piece_marks = some ⟨oc_piece_marks, od_piece_marks, .func (PySem.W.fnOf "piece_marks" "piece_marks" (defArgs s_piece_marks) (defBody s_piece_marks) (defScope s_piece_marks) .none kV_piece_marks dc_piece_marks pm_piece_marks an_piece_marks cd_piece_marks ct_piece_marks), sl_piece_marks⟩) (c_piece_marks : PySem.W.codeIn K cd_piece_marks "piece_marks" = true) (k_piece_marks : PySem.W.keepIn K (.ref f_piece_marks) = true)
    (a_hidden_count : PySem.W.nsIn K mainGlobals "hidden_count" = some (some (.ref f_hidden_count))) (l_hidden_count : K.lookup f_hidden_count = some ⟨oc_hidden_count, od_hidden_count, .func (PySem.W.fnOf "hidden_count" "hidden_count" (defArgs s_hidden_count) (defBody s_hidden_count) (defScope s_hidden_count) .none kV_hidden_count dc_hidden_count pm_hidden_count an_hidden_count cd_hidden_count ct_hidden_count), sl_hidden_count⟩) (c_hidden_count : PySem.W.codeIn K cd_hidden_count "hidden_count" = true) (k_hidden_count : PySem.W.keepIn K (.ref f_hidden_count) = true)
    (a_put : PySem.W.nsIn K mainGlobals "put" = some (some (.ref f_put))) (l_put : K.lookup f_put = some ⟨oc_put, od_put, .func (PySem.W.fnOf "put" "put" (defArgs s_put) (defBody s_put) (defScope s_put) .none kV_put dc_put pm_put an_put cd_put ct_put), sl_put⟩) (c_put : PySem.W.codeIn K cd_put "put" = true) (k_put : PySem.W.keepIn K (.ref f_put) = true)
    (a_closed_end : PySem.W.nsIn K mainGlobals "closed_end" = some (some (.ref f_closed_end))) (l_closed_end : K.lookup f_closed_end = some ⟨oc_closed_end, od_closed_end, .func (PySem.W.fnOf "closed_end" "closed_end" (defArgs s_closed_end) (defBody s_closed_end) (defScope s_closed_end) .none kV_closed_end dc_closed_end pm_closed_end an_closed_end cd_closed_end ct_closed_end), sl_closed_end⟩) (c_closed_end : PySem.W.codeIn K cd_closed_end "closed_end" = true) (k_closed_end : PySem.W.keepIn K (.ref f_closed_end) = true)
    (a_closing : PySem.W.nsIn K mainGlobals "closing" = some (some (.ref f_closing))) (l_closing : K.lookup f_closing = some ⟨oc_closing, od_closing, .func (PySem.W.fnOf "closing" "closing" (defArgs s_closing) (defBody s_closing) (defScope s_closing) .none kV_closing dc_closing pm_closing an_closing cd_closing ct_closing), sl_closing⟩) (c_closing : PySem.W.codeIn K cd_closing "closing" = true) (k_closing : PySem.W.keepIn K (.ref f_closing) = true)
    (a_over : PySem.W.nsIn K mainGlobals "over" = some (some (.ref f_over))) (l_over : K.lookup f_over = some ⟨oc_over, od_over, .func (PySem.W.fnOf "over" "over" (defArgs s_over) (defBody s_over) (defScope s_over) .none kV_over dc_over pm_over an_over cd_over ct_over), sl_over⟩) (c_over : PySem.W.codeIn K cd_over "over" = true) (k_over : PySem.W.keepIn K (.ref f_over) = true)
    (a_piece_count : PySem.W.nsIn K mainGlobals "piece_count" = some (some (.ref f_piece_count))) (l_piece_count : K.lookup f_piece_count = some ⟨oc_piece_count, od_piece_count, .func (PySem.W.fnOf "piece_count" "piece_count" (defArgs s_piece_count) (defBody s_piece_count) (defScope s_piece_count) .none kV_piece_count dc_piece_count pm_piece_count an_piece_count cd_piece_count ct_piece_count), sl_piece_count⟩) (c_piece_count : PySem.W.codeIn K cd_piece_count "piece_count" = true) (k_piece_count : PySem.W.keepIn K (.ref f_piece_count) = true)
    (a_law_marked : PySem.W.nsIn K mainGlobals "_law_marked" = some (some (.ref f_law_marked))) (l_law_marked : K.lookup f_law_marked = some ⟨oc_law_marked, od_law_marked, .func (PySem.W.fnOf "_law_marked" "_law_marked" (defArgs s_law_marked) (defBody s_law_marked) (defScope s_law_marked) .none kV_law_marked dc_law_marked pm_law_marked an_law_marked cd_law_marked ct_law_marked), sl_law_marked⟩) (c_law_marked : PySem.W.codeIn K cd_law_marked "_law_marked" = true) (k_law_marked : PySem.W.keepIn K (.ref f_law_marked) = true)
    (a_law_belongs : PySem.W.nsIn K mainGlobals "_law_belongs" = some (some (.ref f_law_belongs))) (l_law_belongs : K.lookup f_law_belongs = some ⟨oc_law_belongs, od_law_belongs, .func (PySem.W.fnOf "_law_belongs" "_law_belongs" (defArgs s_law_belongs) (defBody s_law_belongs) (defScope s_law_belongs) .none kV_law_belongs dc_law_belongs pm_law_belongs an_law_belongs cd_law_belongs ct_law_belongs), sl_law_belongs⟩) (c_law_belongs : PySem.W.codeIn K cd_law_belongs "_law_belongs" = true) (k_law_belongs : PySem.W.keepIn K (.ref f_law_belongs) = true)
    (a_law_all : PySem.W.nsIn K mainGlobals "_law_all" = some (some (.ref f_law_all))) (l_law_all : K.lookup f_law_all = some ⟨oc_law_all, od_law_all, .func (PySem.W.fnOf "_law_all" "_law_all" (defArgs s_law_all) (defBody s_law_all) (defScope s_law_all) .none kV_law_all dc_law_all pm_law_all an_law_all cd_law_all ct_law_all), sl_law_all⟩) (c_law_all : PySem.W.codeIn K cd_law_all "_law_all" = true) (k_law_all : PySem.W.keepIn K (.ref f_law_all) = true)
    (a_law_marks : PySem.W.nsIn K mainGlobals "_law_marks" = some (some (.ref f_law_marks))) (l_law_marks : K.lookup f_law_marks = some ⟨oc_law_marks, od_law_marks, .func (PySem.W.fnOf "_law_marks" "_law_marks" (defArgs s_law_marks) (defBody s_law_marks) (defScope s_law_marks) .none kV_law_marks dc_law_marks pm_law_marks an_law_marks cd_law_marks ct_law_marks), sl_law_marks⟩) (c_law_marks : PySem.W.codeIn K cd_law_marks "_law_marks" = true) (k_law_marks : PySem.W.keepIn K (.ref f_law_marks) = true)
    (a_law_glued : PySem.W.nsIn K mainGlobals "_law_glued" = some (some (.ref f_law_glued))) (l_law_glued : K.lookup f_law_glued = some ⟨oc_law_glued, od_law_glued, .func (PySem.W.fnOf "_law_glued" "_law_glued" (defArgs s_law_glued) (defBody s_law_glued) (defScope s_law_glued) .none kV_law_glued dc_law_glued pm_law_glued an_law_glued cd_law_glued ct_law_glued), sl_law_glued⟩) (c_law_glued : PySem.W.codeIn K cd_law_glued "_law_glued" = true) (k_law_glued : PySem.W.keepIn K (.ref f_law_glued) = true)
    (a_law_kinds : PySem.W.nsIn K mainGlobals "_law_kinds" = some (some (.ref f_law_kinds))) (l_law_kinds : K.lookup f_law_kinds = some ⟨oc_law_kinds, od_law_kinds, .func (PySem.W.fnOf "_law_kinds" "_law_kinds" (defArgs s_law_kinds) (defBody s_law_kinds) (defScope s_law_kinds) .none kV_law_kinds dc_law_kinds pm_law_kinds an_law_kinds cd_law_kinds ct_law_kinds), sl_law_kinds⟩) (c_law_kinds : PySem.W.codeIn K cd_law_kinds "_law_kinds" = true) (k_law_kinds : PySem.W.keepIn K (.ref f_law_kinds) = true)
    (a_joined_pieces : PySem.W.nsIn K mainGlobals "joined_pieces" = some (some (.ref f_joined_pieces))) (l_joined_pieces : K.lookup f_joined_pieces = some ⟨oc_joined_pieces, od_joined_pieces, .func (PySem.W.fnOf "joined_pieces" "joined_pieces" (defArgs s_joined_pieces) (defBody s_joined_pieces) (defScope s_joined_pieces) .none kV_joined_pieces dc_joined_pieces pm_joined_pieces an_joined_pieces cd_joined_pieces ct_joined_pieces), sl_joined_pieces⟩) (c_joined_pieces : PySem.W.codeIn K cd_joined_pieces "joined_pieces" = true) (k_joined_pieces : PySem.W.keepIn K (.ref f_joined_pieces) = true)
    (a_joined : PySem.W.nsIn K mainGlobals "joined" = some (some (.ref f_joined))) (l_joined : K.lookup f_joined = some ⟨oc_joined, od_joined, .func (PySem.W.fnOf "joined" "joined" (defArgs s_joined) (defBody s_joined) (defScope s_joined) .none kV_joined dc_joined pm_joined an_joined cd_joined ct_joined), sl_joined⟩) (c_joined : PySem.W.codeIn K cd_joined "joined" = true) (k_joined : PySem.W.keepIn K (.ref f_joined) = true)
    (a_loop_powers : PySem.W.nsIn K mainGlobals "loop_powers" = some (some (.ref f_loop_powers))) (l_loop_powers : K.lookup f_loop_powers = some ⟨oc_loop_powers, od_loop_powers, .func (PySem.W.fnOf "loop_powers" "loop_powers" (defArgs s_loop_powers) (defBody s_loop_powers) (defScope s_loop_powers) .none kV_loop_powers dc_loop_powers pm_loop_powers an_loop_powers cd_loop_powers ct_loop_powers), sl_loop_powers⟩) (c_loop_powers : PySem.W.codeIn K cd_loop_powers "loop_powers" = true) (k_loop_powers : PySem.W.keepIn K (.ref f_loop_powers) = true)
    (a_closings : PySem.W.nsIn K mainGlobals "closings" = some (some (.ref f_closings))) (l_closings : K.lookup f_closings = some ⟨oc_closings, od_closings, .func (PySem.W.fnOf "closings" "closings" (defArgs s_closings) (defBody s_closings) (defScope s_closings) .none kV_closings dc_closings pm_closings an_closings cd_closings ct_closings), sl_closings⟩) (c_closings : PySem.W.codeIn K cd_closings "closings" = true) (k_closings : PySem.W.keepIn K (.ref f_closings) = true)
    (a_worths : PySem.W.nsIn K mainGlobals "worths" = some (some (.ref f_worths))) (l_worths : K.lookup f_worths = some ⟨oc_worths, od_worths, .func (PySem.W.fnOf "worths" "worths" (defArgs s_worths) (defBody s_worths) (defScope s_worths) .none kV_worths dc_worths pm_worths an_worths cd_worths ct_worths), sl_worths⟩) (c_worths : PySem.W.codeIn K cd_worths "worths" = true) (k_worths : PySem.W.keepIn K (.ref f_worths) = true)
    (a_law_world : PySem.W.nsIn K mainGlobals "_law_world" = some (some (.ref f_law_world))) (l_law_world : K.lookup f_law_world = some ⟨oc_law_world, od_law_world, .func (PySem.W.fnOf "_law_world" "_law_world" (defArgs s_law_world) (defBody s_law_world) (defScope s_law_world) .none kV_law_world dc_law_world pm_law_world an_law_world cd_law_world ct_law_world), sl_law_world⟩) (c_law_world : PySem.W.codeIn K cd_law_world "_law_world" = true) (k_law_world : PySem.W.keepIn K (.ref f_law_world) = true)
    (a_law_family : PySem.W.nsIn K mainGlobals "_law_family" = some (some (.ref f_law_family))) (l_law_family : K.lookup f_law_family = some ⟨oc_law_family, od_law_family, .func (PySem.W.fnOf "_law_family" "_law_family" (defArgs s_law_family) (defBody s_law_family) (defScope s_law_family) .none kV_law_family dc_law_family pm_law_family an_law_family cd_law_family ct_law_family), sl_law_family⟩) (c_law_family : PySem.W.codeIn K cd_law_family "_law_family" = true) (k_law_family : PySem.W.keepIn K (.ref f_law_family) = true)
    (a_law_shape : PySem.W.nsIn K mainGlobals "_law_shape" = some (some (.ref f_law_shape))) (l_law_shape : K.lookup f_law_shape = some ⟨oc_law_shape, od_law_shape, .func (PySem.W.fnOf "_law_shape" "_law_shape" (defArgs s_law_shape) (defBody s_law_shape) (defScope s_law_shape) .none kV_law_shape dc_law_shape pm_law_shape an_law_shape cd_law_shape ct_law_shape), sl_law_shape⟩) (c_law_shape : PySem.W.codeIn K cd_law_shape "_law_shape" = true) (k_law_shape : PySem.W.keepIn K (.ref f_law_shape) = true)
    (a_law_times : PySem.W.nsIn K mainGlobals "_law_times" = some (some (.ref f_law_times))) (l_law_times : K.lookup f_law_times = some ⟨oc_law_times, od_law_times, .func (PySem.W.fnOf "_law_times" "_law_times" (defArgs s_law_times) (defBody s_law_times) (defScope s_law_times) .none kV_law_times dc_law_times pm_law_times an_law_times cd_law_times ct_law_times), sl_law_times⟩) (c_law_times : PySem.W.codeIn K cd_law_times "_law_times" = true) (k_law_times : PySem.W.keepIn K (.ref f_law_times) = true)
    (a_law_power : PySem.W.nsIn K mainGlobals "_law_power" = some (some (.ref f_law_power))) (l_law_power : K.lookup f_law_power = some ⟨oc_law_power, od_law_power, .func (PySem.W.fnOf "_law_power" "_law_power" (defArgs s_law_power) (defBody s_law_power) (defScope s_law_power) .none kV_law_power dc_law_power pm_law_power an_law_power cd_law_power ct_law_power), sl_law_power⟩) (c_law_power : PySem.W.codeIn K cd_law_power "_law_power" = true) (k_law_power : PySem.W.keepIn K (.ref f_law_power) = true)
    (a_law_joined : PySem.W.nsIn K mainGlobals "_law_joined" = some (some (.ref f_law_joined))) (l_law_joined : K.lookup f_law_joined = some ⟨oc_law_joined, od_law_joined, .func (PySem.W.fnOf "_law_joined" "_law_joined" (defArgs s_law_joined) (defBody s_law_joined) (defScope s_law_joined) .none kV_law_joined dc_law_joined pm_law_joined an_law_joined cd_law_joined ct_law_joined), sl_law_joined⟩) (c_law_joined : PySem.W.codeIn K cd_law_joined "_law_joined" = true) (k_law_joined : PySem.W.keepIn K (.ref f_law_joined) = true)
    (a_law_kind : PySem.W.nsIn K mainGlobals "_law_kind" = some (some (.ref f_law_kind))) (l_law_kind : K.lookup f_law_kind = some ⟨oc_law_kind, od_law_kind, .func (PySem.W.fnOf "_law_kind" "_law_kind" (defArgs s_law_kind) (defBody s_law_kind) (defScope s_law_kind) .none kV_law_kind dc_law_kind pm_law_kind an_law_kind cd_law_kind ct_law_kind), sl_law_kind⟩) (c_law_kind : PySem.W.codeIn K cd_law_kind "_law_kind" = true) (k_law_kind : PySem.W.keepIn K (.ref f_law_kind) = true)
    (a_law_told : PySem.W.nsIn K mainGlobals "_law_told" = some (some (.ref f_law_told))) (l_law_told : K.lookup f_law_told = some ⟨oc_law_told, od_law_told, .func (PySem.W.fnOf "_law_told" "_law_told" (defArgs s_law_told) (defBody s_law_told) (defScope s_law_told) .none kV_law_told dc_law_told pm_law_told an_law_told cd_law_told ct_law_told), sl_law_told⟩) (c_law_told : PySem.W.codeIn K cd_law_told "_law_told" = true) (k_law_told : PySem.W.keepIn K (.ref f_law_told) = true)
    (a_law_pair : PySem.W.nsIn K mainGlobals "_law_pair" = some (some (.ref f_law_pair))) (l_law_pair : K.lookup f_law_pair = some ⟨oc_law_pair, od_law_pair, .func (PySem.W.fnOf "_law_pair" "_law_pair" (defArgs s_law_pair) (defBody s_law_pair) (defScope s_law_pair) .none kV_law_pair dc_law_pair pm_law_pair an_law_pair cd_law_pair ct_law_pair), sl_law_pair⟩) (c_law_pair : PySem.W.codeIn K cd_law_pair "_law_pair" = true) (k_law_pair : PySem.W.keepIn K (.ref f_law_pair) = true)
    (a_law : PySem.W.nsIn K mainGlobals "law" = some (some (.ref f_law))) (l_law : K.lookup f_law = some ⟨oc_law, od_law, .func (PySem.W.fnOf "law" "law" (defArgs s_law) (defBody s_law) (defScope s_law) .none kV_law dc_law pm_law an_law cd_law ct_law), sl_law⟩) (c_law : PySem.W.codeIn K cd_law "law" = true) (k_law : PySem.W.keepIn K (.ref f_law) = true)
    (zn_int : PySem.W.nsIn K mainGlobals "int" = some none)
    (zn_range : PySem.W.nsIn K mainGlobals "range" = some none)
    (zn_len : PySem.W.nsIn K mainGlobals "len" = some none)
    (zn_list : PySem.W.nsIn K mainGlobals "list" = some none)
    (zn_tuple : PySem.W.nsIn K mainGlobals "tuple" = some none)
    (zn_max : PySem.W.nsIn K mainGlobals "max" = some none)
    (zn_min : PySem.W.nsIn K mainGlobals "min" = some none)
    (zn_all : PySem.W.nsIn K mainGlobals "all" = some none)
    (zn_any : PySem.W.nsIn K mainGlobals "any" = some none)
    (zn_sorted : PySem.W.nsIn K mainGlobals "sorted" = some none)
    (zn_repr : PySem.W.nsIn K mainGlobals "repr" = some none)
    (zn_isinstance : PySem.W.nsIn K mainGlobals "isinstance" = some none)
    (zn_enumerate : PySem.W.nsIn K mainGlobals "enumerate" = some none)
    (zn_str : PySem.W.nsIn K mainGlobals "str" = some none)
    (zn_set : PySem.W.nsIn K mainGlobals "set" = some none)
    (zn_divmod : PySem.W.nsIn K mainGlobals "divmod" = some none)
    (zn_sum : PySem.W.nsIn K mainGlobals "sum" = some none)
    (zn_abs : PySem.W.nsIn K mainGlobals "abs" = some none)
    (zn_bool : PySem.W.nsIn K mainGlobals "bool" = some none)
    (n_gcd : PySem.W.nsIn K mainGlobals "gcd" = some (some (.builtin "math.gcd")))
    (n_PRIMES : PySem.W.nsIn K mainGlobals "PRIMES" = some (some (.ref aP)))
    (l_PRIMES : K.lookup aP = some ⟨.type "tuple", ddP, .seq #[.int 2 u2, .int 3 u3, .int 5 u5, .int 7 u7, .int 11 u11, .int 13 u13, .int 17 u17, .int 19 u19, .int 23 u23, .int 29 u29, .int 31 u31] nP, slP⟩)
    (n_NotWorld : PySem.W.nsIn K mainGlobals "NotWorld" = some (some (.ref CW)))
    (x_NotWorld : PySem.W.excIn K CW [.type "ValueError", .type "Exception", .type "BaseException", .type "object"] "ValueError.__new__" = true)
    (kc_NotWorld : PySem.W.keepIn K (.ref CW) = true)
    (bc_NotWorld : PySem.W.subIn K (.ref CW) (.type "BaseException") = some true)
    (tc_NotWorld : PySem.W.typeIn K (.ref CW) = some (.type "type"))
    (n_NotNumber : PySem.W.nsIn K mainGlobals "NotNumber" = some (some (.ref CN)))
    (x_NotNumber : PySem.W.excIn K CN [.type "ValueError", .type "Exception", .type "BaseException", .type "object"] "ValueError.__new__" = true)
    (kc_NotNumber : PySem.W.keepIn K (.ref CN) = true)
    (bc_NotNumber : PySem.W.subIn K (.ref CN) (.type "BaseException") = some true)
    (tc_NotNumber : PySem.W.typeIn K (.ref CN) = some (.type "type"))
    (n_BadNumber : PySem.W.nsIn K mainGlobals "BadNumber" = some (some (.ref CB)))
    (x_BadNumber : PySem.W.excIn K CB [.type "ValueError", .type "Exception", .type "BaseException", .type "object"] "ValueError.__new__" = true)
    (kc_BadNumber : PySem.W.keepIn K (.ref CB) = true)
    (bc_BadNumber : PySem.W.subIn K (.ref CB) (.type "BaseException") = some true)
    (tc_BadNumber : PySem.W.typeIn K (.ref CB) = some (.type "type"))
    (n_NotDiagram : PySem.W.nsIn K mainGlobals "NotDiagram" = some (some (.ref CD)))
    (x_NotDiagram : PySem.W.excIn K CD [.type "ValueError", .type "Exception", .type "BaseException", .type "object"] "ValueError.__new__" = true)
    (kc_NotDiagram : PySem.W.keepIn K (.ref CD) = true)
    (bc_NotDiagram : PySem.W.subIn K (.ref CD) (.type "BaseException") = some true)
    (tc_NotDiagram : PySem.W.typeIn K (.ref CD) = some (.type "type"))
    (n_TooLarge : PySem.W.nsIn K mainGlobals "TooLarge" = some (some (.ref CT)))
    (x_TooLarge : PySem.W.excIn K CT [.type "ValueError", .type "Exception", .type "BaseException", .type "object"] "ValueError.__new__" = true)
    (kc_TooLarge : PySem.W.keepIn K (.ref CT) = true)
    (bc_TooLarge : PySem.W.subIn K (.ref CT) (.type "BaseException") = some true)
    (tc_TooLarge : PySem.W.typeIn K (.ref CT) = some (.type "type"))
    (n_NotFamily : PySem.W.nsIn K mainGlobals "NotFamily" = some (some (.ref CF)))
    (x_NotFamily : PySem.W.excIn K CF [.type "ValueError", .type "Exception", .type "BaseException", .type "object"] "ValueError.__new__" = true)
    (kc_NotFamily : PySem.W.keepIn K (.ref CF) = true)
    (bc_NotFamily : PySem.W.subIn K (.ref CF) (.type "BaseException") = some true)
    (tc_NotFamily : PySem.W.typeIn K (.ref CF) = some (.type "type"))
    (ld_number : K.lookup dT_number = some ⟨.type "tuple", dd_number, .seq #[.int 1 un] nn_number, sd_number⟩)
    (n_MOST_ON_A_SIDE : PySem.W.nsIn K mainGlobals "MOST_ON_A_SIDE" = some (some (.int 8 tm_MOST_ON_A_SIDE)))
    (n_MOST_POINTS : PySem.W.nsIn K mainGlobals "MOST_POINTS" = some (some (.int 12 tm_MOST_POINTS)))
    (n_MOST_LISTED : PySem.W.nsIn K mainGlobals "MOST_LISTED" = some (some (.int 250 tm_MOST_LISTED)))
    (n_MOST_POWER : PySem.W.nsIn K mainGlobals "MOST_POWER" = some (some (.int 200 tm_MOST_POWER)))
    (n_comb : PySem.W.nsIn K mainGlobals "comb" = some (some (.builtin "math.comb")))
    (n_factorial : PySem.W.nsIn K mainGlobals "factorial" = some (some (.builtin "math.factorial")))
    (n_ONE : PySem.W.nsIn K mainGlobals "ONE" = some (some (.ref aO)))
    (l_ONE : K.lookup aO = some ⟨.type "tuple", ddO, .seq #[.int 1 uo1, .int 1 uo2] nO, slO⟩)
    (n_FAMILIES : PySem.W.nsIn K mainGlobals "FAMILIES" = some (some (.ref aF)))
    (l_FAMILIES : K.lookup aF = some ⟨.type "tuple", ddF, .seq #[.str "threads" uf0, .str "loose" uf1, .str "pairs" uf2, .str "lonepairs" uf3, .str "even" uf4, .str "parts" uf5] nF, slF⟩)
    (n_WorthError : PySem.W.nsIn K mainGlobals "WorthError" = some (some (.ref CE)))
    (ebc : PySem.W.subIn K (.ref CE) (.type "BaseException") = some true)
    (ehd : PySem.W.hasDictIn K CE = true)
    (ety : PySem.W.typeIn K (.ref CE) = some (.type "type"))
    (hn_cls : PySem.W.specialIn K (.builtin "object.__class__") "__get__" = some (some (.builtin "getset_descriptor.__get__")))
    (ht_cls : PySem.W.takesIn K (.builtin "object.__class__") = some true)
    (hg_NotWorld : PySem.W.findIn K (.ref CW) "__getattribute__" = some (some (.builtin "BaseException.__getattribute__")))
    (hk_NotWorld : PySem.W.findIn K (.ref CW) "__getattr__" = some none)
    (hd_NotWorld : PySem.W.hasDictIn K CW = true)
    (ha_NotWorld : PySem.W.findIn K (.ref CW) "__class__" = some (some (.builtin "object.__class__")))
    (hm_NotWorld : PySem.W.mroIn K CW (.type "object") = some true)
    (sE_NotWorld : PySem.W.subIn K (.ref CW) (.ref CE) = some true)
    (tE_NotWorld : PySem.W.kitOne K (.ref CW) (.ref CE) = some true)
    (t_NotWorld_NotWorld : PySem.W.kitOne K (.ref CW) (.ref CW) = some true)
    (t_NotWorld_NotFamily : PySem.W.kitOne K (.ref CW) (.ref CF) = some false)
    (t_NotWorld_NotDiagram : PySem.W.kitOne K (.ref CW) (.ref CD) = some false)
    (t_NotWorld_NotNumber : PySem.W.kitOne K (.ref CW) (.ref CN) = some false)
    (t_NotWorld_BadNumber : PySem.W.kitOne K (.ref CW) (.ref CB) = some false)
    (t_NotWorld_TooLarge : PySem.W.kitOne K (.ref CW) (.ref CT) = some false)
    (hg_NotFamily : PySem.W.findIn K (.ref CF) "__getattribute__" = some (some (.builtin "BaseException.__getattribute__")))
    (hk_NotFamily : PySem.W.findIn K (.ref CF) "__getattr__" = some none)
    (hd_NotFamily : PySem.W.hasDictIn K CF = true)
    (ha_NotFamily : PySem.W.findIn K (.ref CF) "__class__" = some (some (.builtin "object.__class__")))
    (hm_NotFamily : PySem.W.mroIn K CF (.type "object") = some true)
    (sE_NotFamily : PySem.W.subIn K (.ref CF) (.ref CE) = some true)
    (tE_NotFamily : PySem.W.kitOne K (.ref CF) (.ref CE) = some true)
    (t_NotFamily_NotWorld : PySem.W.kitOne K (.ref CF) (.ref CW) = some false)
    (t_NotFamily_NotFamily : PySem.W.kitOne K (.ref CF) (.ref CF) = some true)
    (t_NotFamily_NotDiagram : PySem.W.kitOne K (.ref CF) (.ref CD) = some false)
    (t_NotFamily_NotNumber : PySem.W.kitOne K (.ref CF) (.ref CN) = some false)
    (t_NotFamily_BadNumber : PySem.W.kitOne K (.ref CF) (.ref CB) = some false)
    (t_NotFamily_TooLarge : PySem.W.kitOne K (.ref CF) (.ref CT) = some false)
    (hg_NotDiagram : PySem.W.findIn K (.ref CD) "__getattribute__" = some (some (.builtin "BaseException.__getattribute__")))
    (hk_NotDiagram : PySem.W.findIn K (.ref CD) "__getattr__" = some none)
    (hd_NotDiagram : PySem.W.hasDictIn K CD = true)
    (ha_NotDiagram : PySem.W.findIn K (.ref CD) "__class__" = some (some (.builtin "object.__class__")))
    (hm_NotDiagram : PySem.W.mroIn K CD (.type "object") = some true)
    (sE_NotDiagram : PySem.W.subIn K (.ref CD) (.ref CE) = some true)
    (tE_NotDiagram : PySem.W.kitOne K (.ref CD) (.ref CE) = some true)
    (t_NotDiagram_NotWorld : PySem.W.kitOne K (.ref CD) (.ref CW) = some false)
    (t_NotDiagram_NotFamily : PySem.W.kitOne K (.ref CD) (.ref CF) = some false)
    (t_NotDiagram_NotDiagram : PySem.W.kitOne K (.ref CD) (.ref CD) = some true)
    (t_NotDiagram_NotNumber : PySem.W.kitOne K (.ref CD) (.ref CN) = some false)
    (t_NotDiagram_BadNumber : PySem.W.kitOne K (.ref CD) (.ref CB) = some false)
    (t_NotDiagram_TooLarge : PySem.W.kitOne K (.ref CD) (.ref CT) = some false)
    (hg_BadNumber : PySem.W.findIn K (.ref CB) "__getattribute__" = some (some (.builtin "BaseException.__getattribute__")))
    (hk_BadNumber : PySem.W.findIn K (.ref CB) "__getattr__" = some none)
    (hd_BadNumber : PySem.W.hasDictIn K CB = true)
    (ha_BadNumber : PySem.W.findIn K (.ref CB) "__class__" = some (some (.builtin "object.__class__")))
    (hm_BadNumber : PySem.W.mroIn K CB (.type "object") = some true)
    (sE_BadNumber : PySem.W.subIn K (.ref CB) (.ref CE) = some true)
    (tE_BadNumber : PySem.W.kitOne K (.ref CB) (.ref CE) = some true)
    (t_BadNumber_NotWorld : PySem.W.kitOne K (.ref CB) (.ref CW) = some false)
    (t_BadNumber_NotFamily : PySem.W.kitOne K (.ref CB) (.ref CF) = some false)
    (t_BadNumber_NotDiagram : PySem.W.kitOne K (.ref CB) (.ref CD) = some false)
    (t_BadNumber_NotNumber : PySem.W.kitOne K (.ref CB) (.ref CN) = some false)
    (t_BadNumber_BadNumber : PySem.W.kitOne K (.ref CB) (.ref CB) = some true)
    (t_BadNumber_TooLarge : PySem.W.kitOne K (.ref CB) (.ref CT) = some false)
    (hg_TooLarge : PySem.W.findIn K (.ref CT) "__getattribute__" = some (some (.builtin "BaseException.__getattribute__")))
    (hk_TooLarge : PySem.W.findIn K (.ref CT) "__getattr__" = some none)
    (hd_TooLarge : PySem.W.hasDictIn K CT = true)
    (ha_TooLarge : PySem.W.findIn K (.ref CT) "__class__" = some (some (.builtin "object.__class__")))
    (hm_TooLarge : PySem.W.mroIn K CT (.type "object") = some true)
    (sE_TooLarge : PySem.W.subIn K (.ref CT) (.ref CE) = some true)
    (tE_TooLarge : PySem.W.kitOne K (.ref CT) (.ref CE) = some true)
    (t_TooLarge_NotWorld : PySem.W.kitOne K (.ref CT) (.ref CW) = some false)
    (t_TooLarge_NotFamily : PySem.W.kitOne K (.ref CT) (.ref CF) = some false)
    (t_TooLarge_NotDiagram : PySem.W.kitOne K (.ref CT) (.ref CD) = some false)
    (t_TooLarge_NotNumber : PySem.W.kitOne K (.ref CT) (.ref CN) = some false)
    (t_TooLarge_BadNumber : PySem.W.kitOne K (.ref CT) (.ref CB) = some false)
    (t_TooLarge_TooLarge : PySem.W.kitOne K (.ref CT) (.ref CT) = some true)
    : ∃ fd : FuncData, (∀ (s : Shared) (v : Value), BindsTo s fd ⟨[v], []⟩ [("script", v)]) ∧ ∀ base : Heap, K.In base → base.Ns mainGlobals mg → FnG P w K mg base 12 fa fd ["script"] (spLaw K) := by
  have e := hfa.symm.trans (PySem.W.mg_of X G a_law)
  cases e
  have F_is_world := fun_mk (st := s_is_world) l_is_world c_is_world k_is_world
  have g_is_world := PySem.W.mg_of X G a_is_world
  have b_is_world := F_is_world.binds (ps := ["world"]) fun _ _ _ _ _ _ us hl => match us, hl with | [_], _ => rfl
  have F_law_number := fun_mk (st := s_law_number) l_law_number c_law_number k_law_number
  have g_law_number := PySem.W.mg_of X G a_law_number
  have b_law_number := F_law_number.binds (ps := ["cell"]) fun _ _ _ _ _ _ us hl => match us, hl with | [_], _ => rfl
  have F_law_next := fun_mk (st := s_law_next) l_law_next c_law_next k_law_next
  have g_law_next := PySem.W.mg_of X G a_law_next
  have b_law_next := F_law_next.binds (ps := ["draws"]) fun _ _ _ _ _ _ us hl => match us, hl with | [_], _ => rfl
  have F_law_draws := fun_mk (st := s_law_draws) l_law_draws c_law_draws k_law_draws
  have g_law_draws := PySem.W.mg_of X G a_law_draws
  have b_law_draws := F_law_draws.binds (ps := ["script"]) fun _ _ _ _ _ _ us hl => match us, hl with | [_], _ => rfl
  have F_check_world := fun_mk (st := s_check_world) l_check_world c_check_world k_check_world
  have g_check_world := PySem.W.mg_of X G a_check_world
  have b_check_world := F_check_world.binds (ps := ["world"]) fun _ _ _ _ _ _ us hl => match us, hl with | [_], _ => rfl
  have F_is_number := fun_mk (st := s_is_number) l_is_number c_is_number k_is_number
  have g_is_number := PySem.W.mg_of X G a_is_number
  have b_is_number := F_is_number.binds (ps := ["world", "x"]) fun _ _ _ _ _ _ us hl => match us, hl with | [_, _], _ => rfl
  have F_check_number := fun_mk (st := s_check_number) l_check_number c_check_number k_check_number
  have g_check_number := PySem.W.mg_of X G a_check_number
  have b_check_number := F_check_number.binds (ps := ["world", "x"]) fun _ _ _ _ _ _ us hl => match us, hl with | [_, _], _ => rfl
  have F_lowest_ := fun_mk (st := s_lowest_) l_lowest_ c_lowest_ k_lowest_
  have g_lowest_ := PySem.W.mg_of X G a_lowest_
  have b_lowest_ := F_lowest_.binds (ps := ["a", "b"]) fun _ _ _ _ _ _ us hl => match us, hl with | [_, _], _ => rfl
  have F_inverse_ := fun_mk (st := s_inverse_) l_inverse_ c_inverse_ k_inverse_
  have g_inverse_ := PySem.W.mg_of X G a_inverse_
  have b_inverse_ := F_inverse_.binds (ps := ["p", "b"]) fun _ _ _ _ _ _ us hl => match us, hl with | [_, _], _ => rfl
  have F_number : FunA K "number" "number" s_number f_number _ := ⟨⟨_, _, _, _, _, _, _, _, _, _, rfl, l_number, c_number⟩, k_number⟩
  have g_number := PySem.W.mg_of X G a_number
  have F_check_two_ := fun_mk (st := s_check_two_) l_check_two_ c_check_two_ k_check_two_
  have g_check_two_ := PySem.W.mg_of X G a_check_two_
  have b_check_two_ := F_check_two_.binds (ps := ["world", "x", "y"]) fun _ _ _ _ _ _ us hl => match us, hl with | [_, _, _], _ => rfl
  have F_times := fun_mk (st := s_times) l_times c_times k_times
  have g_times := PySem.W.mg_of X G a_times
  have b_times := F_times.binds (ps := ["world", "x", "y"]) fun _ _ _ _ _ _ us hl => match us, hl with | [_, _, _], _ => rfl
  have F_power := fun_mk (st := s_power) l_power c_power k_power
  have g_power := PySem.W.mg_of X G a_power
  have b_power := F_power.binds (ps := ["world", "x", "count"]) fun _ _ _ _ _ _ us hl => match us, hl with | [_, _, _], _ => rfl
  have F_loop_worth := fun_mk (st := s_loop_worth) l_loop_worth c_loop_worth k_loop_worth
  have g_loop_worth := PySem.W.mg_of X G a_loop_worth
  have b_loop_worth := F_loop_worth.binds (ps := ["world"]) fun _ _ _ _ _ _ us hl => match us, hl with | [_], _ => rfl
  have F_is_size_ := fun_mk (st := s_is_size_) l_is_size_ c_is_size_ k_is_size_
  have g_is_size_ := PySem.W.mg_of X G a_is_size_
  have b_is_size_ := F_is_size_.binds (ps := ["n", "m"]) fun _ _ _ _ _ _ us hl => match us, hl with | [_, _], _ => rfl
  have F_check_size_ := fun_mk (st := s_check_size_) l_check_size_ c_check_size_ k_check_size_
  have g_check_size_ := PySem.W.mg_of X G a_check_size_
  have b_check_size_ := F_check_size_.binds (ps := ["n", "m"]) fun _ _ _ _ _ _ us hl => match us, hl with | [_, _], _ => rfl
  have F_is_diagram := fun_mk (st := s_is_diagram) l_is_diagram c_is_diagram k_is_diagram
  have g_is_diagram := PySem.W.mg_of X G a_is_diagram
  have b_is_diagram := F_is_diagram.binds (ps := ["diagram"]) fun _ _ _ _ _ _ us hl => match us, hl with | [_], _ => rfl
  have F_check_diagram := fun_mk (st := s_check_diagram) l_check_diagram c_check_diagram k_check_diagram
  have g_check_diagram := PySem.W.mg_of X G a_check_diagram
  have b_check_diagram := F_check_diagram.binds (ps := ["diagram"]) fun _ _ _ _ _ _ us hl => match us, hl with | [_], _ => rfl
  have F_labels := fun_mk (st := s_labels) l_labels c_labels k_labels
  have g_labels := PySem.W.mg_of X G a_labels
  have b_labels := F_labels.binds (ps := ["diagram"]) fun _ _ _ _ _ _ us hl => match us, hl with | [_], _ => rfl
  have F_from_labels := fun_mk (st := s_from_labels) l_from_labels c_from_labels k_from_labels
  have g_from_labels := PySem.W.mg_of X G a_from_labels
  have b_from_labels := F_from_labels.binds (ps := ["n", "m", "marks"]) fun _ _ _ _ _ _ us hl => match us, hl with | [_, _, _], _ => rfl
  have F_check_family := fun_mk (st := s_check_family) l_check_family c_check_family k_check_family
  have g_check_family := PySem.W.mg_of X G a_check_family
  have b_check_family := F_check_family.binds (ps := ["family"]) fun _ _ _ _ _ _ us hl => match us, hl with | [_], _ => rfl
  have F_is_strand_ := fun_mk (st := s_is_strand_) l_is_strand_ c_is_strand_ k_is_strand_
  have g_is_strand_ := PySem.W.mg_of X G a_is_strand_
  have b_is_strand_ := F_is_strand_.binds (ps := ["n", "block"]) fun _ _ _ _ _ _ us hl => match us, hl with | [_, _], _ => rfl
  have F_is_block_size_ := fun_mk (st := s_is_block_size_) l_is_block_size_ c_is_block_size_ k_is_block_size_
  have g_is_block_size_ := PySem.W.mg_of X G a_is_block_size_
  have b_is_block_size_ := F_is_block_size_.binds (ps := ["family", "size"]) fun _ _ _ _ _ _ us hl => match us, hl with | [_, _], _ => rfl
  have F_is_block_of_ := fun_mk (st := s_is_block_of_) l_is_block_of_ c_is_block_of_ k_is_block_of_
  have g_is_block_of_ := PySem.W.mg_of X G a_is_block_of_
  have b_is_block_of_ := F_is_block_of_.binds (ps := ["family", "n", "block"]) fun _ _ _ _ _ _ us hl => match us, hl with | [_, _, _], _ => rfl
  have F_is_in := fun_mk (st := s_is_in) l_is_in c_is_in k_is_in
  have g_is_in := PySem.W.mg_of X G a_is_in
  have b_is_in := F_is_in.binds (ps := ["family", "diagram"]) fun _ _ _ _ _ _ us hl => match us, hl with | [_, _], _ => rfl
  have F_counted_by_last_ := fun_mk (st := s_counted_by_last_) l_counted_by_last_ c_counted_by_last_ k_counted_by_last_
  have g_counted_by_last_ := PySem.W.mg_of X G a_counted_by_last_
  have b_counted_by_last_ := F_counted_by_last_.binds (ps := ["family", "size"]) fun _ _ _ _ _ _ us hl => match us, hl with | [_, _], _ => rfl
  have F_counted := fun_mk (st := s_counted) l_counted c_counted k_counted
  have g_counted := PySem.W.mg_of X G a_counted
  have b_counted := F_counted.binds (ps := ["family", "n", "m"]) fun _ _ _ _ _ _ us hl => match us, hl with | [_, _, _], _ => rfl
  have F_may_follow_ := fun_mk (st := s_may_follow_) l_may_follow_ c_may_follow_ k_may_follow_
  have g_may_follow_ := PySem.W.mg_of X G a_may_follow_
  have b_may_follow_ := F_may_follow_.binds (ps := ["family", "n", "row", "mark"]) fun _ _ _ _ _ _ us hl => match us, hl with | [_, _, _, _], _ => rfl
  have F_label_rows_ := fun_mk (st := s_label_rows_) l_label_rows_ c_label_rows_ k_label_rows_
  have g_label_rows_ := PySem.W.mg_of X G a_label_rows_
  have b_label_rows_ := F_label_rows_.binds (ps := ["family", "n", "m"]) fun _ _ _ _ _ _ us hl => match us, hl with | [_, _, _], _ => rfl
  have F_listed := fun_mk (st := s_listed) l_listed c_listed k_listed
  have g_listed := PySem.W.mg_of X G a_listed
  have b_listed := F_listed.binds (ps := ["family", "n", "m"]) fun _ _ _ _ _ _ us hl => match us, hl with | [_, _, _], _ => rfl
  have F_root_ := fun_mk (st := s_root_) l_root_ c_root_ k_root_
  have g_root_ := PySem.W.mg_of X G a_root_
  have b_root_ := F_root_.binds (ps := ["parents", "point"]) fun _ _ _ _ _ _ us hl => match us, hl with | [_, _], _ => rfl
  have F_piece_marks := fun_mk (st := s_piece_marks) l_piece_marks c_piece_marks k_piece_marks
  have g_piece_marks := PySem.W.mg_of X G a_piece_marks
  have b_piece_marks := F_piece_marks.binds (ps := ["size", "groups"]) fun _ _ _ _ _ _ us hl => match us, hl with | [_, _], _ => rfl
  have F_hidden_count := fun_mk (st := s_hidden_count) l_hidden_count c_hidden_count k_hidden_count
  have g_hidden_count := PySem.W.mg_of X G a_hidden_count
  have b_hidden_count := F_hidden_count.binds (ps := ["marks", "shown"]) fun _ _ _ _ _ _ us hl => match us, hl with | [_, _], _ => rfl
  have F_put := fun_mk (st := s_put) l_put c_put k_put
  have g_put := PySem.W.mg_of X G a_put
  have b_put := F_put.binds (ps := ["one", "other"]) fun _ _ _ _ _ _ us hl => match us, hl with | [_, _], _ => rfl
  have F_closed_end := fun_mk (st := s_closed_end) l_closed_end c_closed_end k_closed_end
  have g_closed_end := PySem.W.mg_of X G a_closed_end
  have b_closed_end := F_closed_end.binds (ps := ["diagram", "count"]) fun _ _ _ _ _ _ us hl => match us, hl with | [_, _], _ => rfl
  have F_closing := fun_mk (st := s_closing) l_closing c_closing k_closing
  have g_closing := PySem.W.mg_of X G a_closing
  have b_closing := F_closing.binds (ps := ["diagram"]) fun _ _ _ _ _ _ us hl => match us, hl with | [_], _ => rfl
  have F_over := fun_mk (st := s_over) l_over c_over k_over
  have g_over := PySem.W.mg_of X G a_over
  have b_over := F_over.binds (ps := ["diagram"]) fun _ _ _ _ _ _ us hl => match us, hl with | [_], _ => rfl
  have F_piece_count := fun_mk (st := s_piece_count) l_piece_count c_piece_count k_piece_count
  have g_piece_count := PySem.W.mg_of X G a_piece_count
  have b_piece_count := F_piece_count.binds (ps := ["size", "groups"]) fun _ _ _ _ _ _ us hl => match us, hl with | [_, _], _ => rfl
  have F_law_marked := fun_mk (st := s_law_marked) l_law_marked c_law_marked k_law_marked
  have g_law_marked := PySem.W.mg_of X G a_law_marked
  have b_law_marked := F_law_marked.binds (ps := ["n", "m", "marks"]) fun _ _ _ _ _ _ us hl => match us, hl with | [_, _, _], _ => rfl
  have F_law_belongs := fun_mk (st := s_law_belongs) l_law_belongs c_law_belongs k_law_belongs
  have g_law_belongs := PySem.W.mg_of X G a_law_belongs
  have b_law_belongs := F_law_belongs.binds (ps := ["family", "diagram"]) fun _ _ _ _ _ _ us hl => match us, hl with | [_, _], _ => rfl
  have F_law_all := fun_mk (st := s_law_all) l_law_all c_law_all k_law_all
  have g_law_all := PySem.W.mg_of X G a_law_all
  have b_law_all := F_law_all.binds (ps := ["family", "n", "m"]) fun _ _ _ _ _ _ us hl => match us, hl with | [_, _, _], _ => rfl
  have F_law_marks := fun_mk (st := s_law_marks) l_law_marks c_law_marks k_law_marks
  have g_law_marks := PySem.W.mg_of X G a_law_marks
  have b_law_marks := F_law_marks.binds (ps := ["diagram"]) fun _ _ _ _ _ _ us hl => match us, hl with | [_], _ => rfl
  have F_law_glued := fun_mk (st := s_law_glued) l_law_glued c_law_glued k_law_glued
  have g_law_glued := PySem.W.mg_of X G a_law_glued
  have b_law_glued := F_law_glued.binds (ps := ["marks", "pairs"]) fun _ _ _ _ _ _ us hl => match us, hl with | [_, _], _ => rfl
  have F_law_kinds := fun_mk (st := s_law_kinds) l_law_kinds c_law_kinds k_law_kinds
  have g_law_kinds := PySem.W.mg_of X G a_law_kinds
  have b_law_kinds := F_law_kinds.binds (ps := ["marks"]) fun _ _ _ _ _ _ us hl => match us, hl with | [_], _ => rfl
  have F_joined_pieces := fun_mk (st := s_joined_pieces) l_joined_pieces c_joined_pieces k_joined_pieces
  have g_joined_pieces := PySem.W.mg_of X G a_joined_pieces
  have b_joined_pieces := F_joined_pieces.binds (ps := ["one", "other"]) fun _ _ _ _ _ _ us hl => match us, hl with | [_, _], _ => rfl
  have F_joined := fun_mk (st := s_joined) l_joined c_joined k_joined
  have g_joined := PySem.W.mg_of X G a_joined
  have b_joined := F_joined.binds (ps := ["one", "other"]) fun _ _ _ _ _ _ us hl => match us, hl with | [_, _], _ => rfl
  have F_loop_powers := fun_mk (st := s_loop_powers) l_loop_powers c_loop_powers k_loop_powers
  have g_loop_powers := PySem.W.mg_of X G a_loop_powers
  have b_loop_powers := F_loop_powers.binds (ps := ["world", "most"]) fun _ _ _ _ _ _ us hl => match us, hl with | [_, _], _ => rfl
  have F_closings := fun_mk (st := s_closings) l_closings c_closings k_closings
  have g_closings := PySem.W.mg_of X G a_closings
  have b_closings := F_closings.binds (ps := ["family", "n", "m"]) fun _ _ _ _ _ _ us hl => match us, hl with | [_, _, _], _ => rfl
  have F_worths := fun_mk (st := s_worths) l_worths c_worths k_worths
  have g_worths := PySem.W.mg_of X G a_worths
  have b_worths := F_worths.binds (ps := ["world", "family", "n", "m"]) fun _ _ _ _ _ _ us hl => match us, hl with | [_, _, _, _], _ => rfl
  have F_law_world := fun_mk (st := s_law_world) l_law_world c_law_world k_law_world
  have g_law_world := PySem.W.mg_of X G a_law_world
  have b_law_world := F_law_world.binds (ps := ["draws"]) fun _ _ _ _ _ _ us hl => match us, hl with | [_], _ => rfl
  have F_law_family := fun_mk (st := s_law_family) l_law_family c_law_family k_law_family
  have g_law_family := PySem.W.mg_of X G a_law_family
  have b_law_family := F_law_family.binds (ps := ["draws"]) fun _ _ _ _ _ _ us hl => match us, hl with | [_], _ => rfl
  have F_law_shape := fun_mk (st := s_law_shape) l_law_shape c_law_shape k_law_shape
  have g_law_shape := PySem.W.mg_of X G a_law_shape
  have b_law_shape := F_law_shape.binds (ps := ["draws"]) fun _ _ _ _ _ _ us hl => match us, hl with | [_], _ => rfl
  have F_law_times := fun_mk (st := s_law_times) l_law_times c_law_times k_law_times
  have g_law_times := PySem.W.mg_of X G a_law_times
  have b_law_times := F_law_times.binds (ps := ["world", "x", "y"]) fun _ _ _ _ _ _ us hl => match us, hl with | [_, _, _], _ => rfl
  have F_law_power := fun_mk (st := s_law_power) l_law_power c_law_power k_law_power
  have g_law_power := PySem.W.mg_of X G a_law_power
  have b_law_power := F_law_power.binds (ps := ["world", "count"]) fun _ _ _ _ _ _ us hl => match us, hl with | [_, _], _ => rfl
  have F_law_joined := fun_mk (st := s_law_joined) l_law_joined c_law_joined k_law_joined
  have g_law_joined := PySem.W.mg_of X G a_law_joined
  have b_law_joined := F_law_joined.binds (ps := ["one", "other"]) fun _ _ _ _ _ _ us hl => match us, hl with | [_, _], _ => rfl
  have F_law_kind := fun_mk (st := s_law_kind) l_law_kind c_law_kind k_law_kind
  have g_law_kind := PySem.W.mg_of X G a_law_kind
  have b_law_kind := F_law_kind.binds (ps := ["error"]) fun _ _ _ _ _ _ us hl => match us, hl with | [_], _ => rfl
  have F_law_told := fun_mk (st := s_law_told) l_law_told c_law_told k_law_told
  have g_law_told := PySem.W.mg_of X G a_law_told
  have b_law_told := F_law_told.binds (ps := ["way", "world", "family", "n", "m"]) fun _ _ _ _ _ _ us hl => match us, hl with | [_, _, _, _, _], _ => rfl
  have F_law_pair := fun_mk (st := s_law_pair) l_law_pair c_law_pair k_law_pair
  have g_law_pair := PySem.W.mg_of X G a_law_pair
  have b_law_pair := F_law_pair.binds (ps := ["one", "other"]) fun _ _ _ _ _ _ us hl => match us, hl with | [_, _], _ => rfl
  have F_law := fun_mk (st := s_law) l_law c_law k_law
  have g_law := PySem.W.mg_of X G a_law
  have b_law := F_law.binds (ps := ["script"]) fun _ _ _ _ _ _ us hl => match us, hl with | [_], _ => rfl
  have z_int := PySem.W.mg_none_of X G zn_int
  have z_range := PySem.W.mg_none_of X G zn_range
  have z_len := PySem.W.mg_none_of X G zn_len
  have z_list := PySem.W.mg_none_of X G zn_list
  have z_tuple := PySem.W.mg_none_of X G zn_tuple
  have z_max := PySem.W.mg_none_of X G zn_max
  have z_min := PySem.W.mg_none_of X G zn_min
  have z_all := PySem.W.mg_none_of X G zn_all
  have z_any := PySem.W.mg_none_of X G zn_any
  have z_sorted := PySem.W.mg_none_of X G zn_sorted
  have z_repr := PySem.W.mg_none_of X G zn_repr
  have z_isinstance := PySem.W.mg_none_of X G zn_isinstance
  have z_enumerate := PySem.W.mg_none_of X G zn_enumerate
  have z_str := PySem.W.mg_none_of X G zn_str
  have z_set := PySem.W.mg_none_of X G zn_set
  have z_divmod := PySem.W.mg_none_of X G zn_divmod
  have z_sum := PySem.W.mg_none_of X G zn_sum
  have z_abs := PySem.W.mg_none_of X G zn_abs
  have z_bool := PySem.W.mg_none_of X G zn_bool
  have m_gcd := PySem.W.mg_of X G n_gcd
  have m_PRIMES := PySem.W.mg_of X G n_PRIMES
  have tP : ∀ H, SqT K H aP (primes.map V.int) := fun H => .inr ⟨_, _, _, l_PRIMES, rfl, rfl, (by show 11 ≤ sizeLine; decide), .cons ⟨_, rfl⟩ (.cons ⟨_, rfl⟩ (.cons ⟨_, rfl⟩ (.cons ⟨_, rfl⟩ (.cons ⟨_, rfl⟩ (.cons ⟨_, rfl⟩ (.cons ⟨_, rfl⟩ (.cons ⟨_, rfl⟩ (.cons ⟨_, rfl⟩ (.cons ⟨_, rfl⟩ (.cons ⟨_, rfl⟩ (.nil)))))))))))⟩
  have E_NotWorld : ErrC K mg "NotWorld" CW := ⟨PySem.W.mg_of X G n_NotWorld, x_NotWorld, kc_NotWorld, bc_NotWorld, tc_NotWorld⟩
  have E_NotNumber : ErrC K mg "NotNumber" CN := ⟨PySem.W.mg_of X G n_NotNumber, x_NotNumber, kc_NotNumber, bc_NotNumber, tc_NotNumber⟩
  have E_BadNumber : ErrC K mg "BadNumber" CB := ⟨PySem.W.mg_of X G n_BadNumber, x_BadNumber, kc_BadNumber, bc_BadNumber, tc_BadNumber⟩
  have E_NotDiagram : ErrC K mg "NotDiagram" CD := ⟨PySem.W.mg_of X G n_NotDiagram, x_NotDiagram, kc_NotDiagram, bc_NotDiagram, tc_NotDiagram⟩
  have E_TooLarge : ErrC K mg "TooLarge" CT := ⟨PySem.W.mg_of X G n_TooLarge, x_TooLarge, kc_TooLarge, bc_TooLarge, tc_TooLarge⟩
  have E_NotFamily : ErrC K mg "NotFamily" CF := ⟨PySem.W.mg_of X G n_NotFamily, x_NotFamily, kc_NotFamily, bc_NotFamily, tc_NotFamily⟩
  have b_number : Binds K (PySem.W.fnOf "number" "number" (defArgs s_number) (defBody s_number) (defScope s_number) (.ref dT_number) kV_number dc_number pm_number an_number cd_number ct_number) ["world", "a", "b"] [] := by
        obtain ⟨ds, hv, hb⟩ := FunD.binds1 (K := K) (kws := []) (dvs := [.int 1]) (ps := ["world", "a", "b"]) ⟨⟨_, _, _, _, _, _, _, _, _, _, rfl, l_number, c_number, .inr ⟨(fun z => nomatch z), dT_number, _, [_], _, rfl, ld_number, rfl, .cons ⟨_, rfl⟩ .nil⟩, .inl rfl⟩, k_number⟩ 3 1 (fun z => nomatch z) rfl
          (fun T kV doc pm an cdv ct us its hl hl2 => match us, its, hl, hl2 with | [_, _, _], [_], _, _ => ⟨_, rfl, rfl⟩)
        cases hv
        exact hb
  have m_MOST_ON_A_SIDE := PySem.W.mg_of X G n_MOST_ON_A_SIDE
  have m_MOST_POINTS := PySem.W.mg_of X G n_MOST_POINTS
  have m_MOST_LISTED := PySem.W.mg_of X G n_MOST_LISTED
  have m_MOST_POWER := PySem.W.mg_of X G n_MOST_POWER
  have m_comb := PySem.W.mg_of X G n_comb
  have m_factorial := PySem.W.mg_of X G n_factorial
  obtain ⟨un2, b_number2⟩ : ∃ t, Binds K (PySem.W.fnOf "number" "number" (defArgs s_number) (defBody s_number) (defScope s_number) (.ref dT_number) kV_number dc_number pm_number an_number cd_number ct_number) ["world", "a", "b"] [.int 1 t] := by
        obtain ⟨ds, hv, hb⟩ := FunD.binds1 (K := K) (kws := []) (dvs := [.int 1]) (ps := ["world", "a", "b"]) ⟨⟨_, _, _, _, _, _, _, _, _, _, rfl, l_number, c_number, .inr ⟨(fun z => nomatch z), dT_number, _, [_], _, rfl, ld_number, rfl, .cons ⟨_, rfl⟩ .nil⟩, .inl rfl⟩, k_number⟩ 2 0 (fun z => nomatch z) rfl
          (fun T kV doc pm an cdv ct us its hl hl2 => match us, its, hl, hl2 with | [_, _], [_], _, _ => ⟨_, rfl, rfl⟩)
        cases hv with
        | cons r1 r2 =>
          cases r2
          obtain ⟨t, rfl⟩ := r1
          exact ⟨t, hb⟩
  have m_ONE := PySem.W.mg_of X G n_ONE
  have tO : ∀ H, SqT K H aO [.int 1, .int 1] := fun H => .inr ⟨_, _, _, l_ONE, rfl, rfl, (by show 2 ≤ sizeLine; decide), .cons ⟨_, rfl⟩ (.cons ⟨_, rfl⟩ .nil)⟩
  have m_FAMILIES := PySem.W.mg_of X G n_FAMILIES
  have tF : ∀ H, SqT K H aF (fams.map V.str) := fun H => .inr ⟨_, _, _, l_FAMILIES, rfl, rfl, (by show 6 ≤ sizeLine; decide), .cons ⟨_, rfl⟩ (.cons ⟨_, rfl⟩ (.cons ⟨_, rfl⟩ (.cons ⟨_, rfl⟩ (.cons ⟨_, rfl⟩ (.cons ⟨_, rfl⟩ (.nil))))))⟩
  have m_WorthError := PySem.W.mg_of X G n_WorthError
  have m_NotWorld := PySem.W.mg_of X G n_NotWorld
  have m_NotFamily := PySem.W.mg_of X G n_NotFamily
  have m_NotDiagram := PySem.W.mg_of X G n_NotDiagram
  have m_NotNumber := PySem.W.mg_of X G n_NotNumber
  have m_BadNumber := PySem.W.mg_of X G n_BadNumber
  have m_TooLarge := PySem.W.mg_of X G n_TooLarge
  have I_NotWorld : ExcC K CW := ⟨hg_NotWorld, hk_NotWorld, bc_NotWorld, hd_NotWorld, ha_NotWorld, hn_cls, ht_cls, hm_NotWorld⟩
  have J_NotWorld : KindE K CE CW CF CD CN CB CT CW "world" := ⟨I_NotWorld, tE_NotWorld, by decide, t_NotWorld_NotWorld, t_NotWorld_NotFamily, t_NotWorld_NotDiagram, t_NotWorld_NotNumber, t_NotWorld_BadNumber, t_NotWorld_TooLarge⟩
  have I_NotFamily : ExcC K CF := ⟨hg_NotFamily, hk_NotFamily, bc_NotFamily, hd_NotFamily, ha_NotFamily, hn_cls, ht_cls, hm_NotFamily⟩
  have J_NotFamily : KindE K CE CW CF CD CN CB CT CF "family" := ⟨I_NotFamily, tE_NotFamily, by decide, t_NotFamily_NotWorld, t_NotFamily_NotFamily, t_NotFamily_NotDiagram, t_NotFamily_NotNumber, t_NotFamily_BadNumber, t_NotFamily_TooLarge⟩
  have I_NotDiagram : ExcC K CD := ⟨hg_NotDiagram, hk_NotDiagram, bc_NotDiagram, hd_NotDiagram, ha_NotDiagram, hn_cls, ht_cls, hm_NotDiagram⟩
  have J_NotDiagram : KindE K CE CW CF CD CN CB CT CD "diagram" := ⟨I_NotDiagram, tE_NotDiagram, by decide, t_NotDiagram_NotWorld, t_NotDiagram_NotFamily, t_NotDiagram_NotDiagram, t_NotDiagram_NotNumber, t_NotDiagram_BadNumber, t_NotDiagram_TooLarge⟩
  have I_BadNumber : ExcC K CB := ⟨hg_BadNumber, hk_BadNumber, bc_BadNumber, hd_BadNumber, ha_BadNumber, hn_cls, ht_cls, hm_BadNumber⟩
  have J_BadNumber : KindE K CE CW CF CD CN CB CT CB "number" := ⟨I_BadNumber, tE_BadNumber, by decide, t_BadNumber_NotWorld, t_BadNumber_NotFamily, t_BadNumber_NotDiagram, t_BadNumber_NotNumber, t_BadNumber_BadNumber, t_BadNumber_TooLarge⟩
  have I_TooLarge : ExcC K CT := ⟨hg_TooLarge, hk_TooLarge, bc_TooLarge, hd_TooLarge, ha_TooLarge, hn_cls, ht_cls, hm_TooLarge⟩
  have J_TooLarge : KindE K CE CW CF CD CN CB CT CT "large" := ⟨I_TooLarge, tE_TooLarge, by decide, t_TooLarge_NotWorld, t_TooLarge_NotFamily, t_TooLarge_NotDiagram, t_TooLarge_NotNumber, t_TooLarge_BadNumber, t_TooLarge_TooLarge⟩
  have T_told : ErrE K mg CE CW CF CD CN CB CT := ⟨PySem.W.mg_of X G n_WorthError, ebc, ehd, ety, sE_NotWorld, sE_NotFamily, sE_NotDiagram, sE_BadNumber, sE_TooLarge, J_NotWorld, J_NotFamily, J_NotDiagram, J_BadNumber, J_TooLarge⟩
  refine ⟨PySem.W.fnOf "law" "law" (defArgs s_law) (defBody s_law) (defScope s_law) .none kV_law dc_law pm_law an_law cd_law ct_law, fun s v => .of_eq rfl, fun base _ _ => ?_⟩
  have G_is_world := ok_is_world (P := P) (w := w) (mg := mg) (base := base) (F := F_is_world) (m_PRIMES := m_PRIMES) (tP := tP)
  have G_law_number := ok_plain (P := P) (w := w) (mg := mg) (base := base) (F := F_law_number)
  have G_law_next := ok_next (P := P) (w := w) (mg := mg) (base := base) (F := F_law_next)
  have G_law_draws := ok_draws (P := P) (w := w) (mg := mg) (base := base) (F := F_law_draws) (z_range := z_range) (z_int := z_int) (G_law_number := G_law_number) (g_law_number := g_law_number) (k_law_number := k_law_number) (b_law_number := b_law_number)
  have G_check_world := ok_check_world (P := P) (w := w) (mg := mg) (base := base) (F := F_check_world) (T := E_NotWorld) (G_is_world := G_is_world) (g_is_world := g_is_world) (k_is_world := k_is_world) (b_is_world := b_is_world)
  have G_is_number := ok_is_number (P := P) (w := w) (mg := mg) (base := base) (F := F_is_number) (m_gcd := m_gcd) (G_check_world := G_check_world) (g_check_world := g_check_world) (k_check_world := k_check_world) (b_check_world := b_check_world)
  have G_check_number := ok_check_number (P := P) (w := w) (mg := mg) (base := base) (F := F_check_number) (T := E_NotNumber) (G_is_number := G_is_number) (g_is_number := g_is_number) (k_is_number := k_is_number) (b_is_number := b_is_number)
  have G_lowest_ := ok_lowest (P := P) (w := w) (mg := mg) (base := base) (F := F_lowest_) (m_gcd := m_gcd)
  have G_inverse_ := ok_inverse (P := P) (w := w) (mg := mg) (base := base) (F := F_inverse_)
  have G_number := ok_number (P := P) (w := w) (mg := mg) (base := base) (F := F_number) (T := E_BadNumber) (G_check_world := G_check_world) (g_check_world := g_check_world) (k_check_world := k_check_world) (b_check_world := b_check_world) (G_inverse_ := G_inverse_) (g_inverse_ := g_inverse_) (k_inverse_ := k_inverse_) (b_inverse_ := b_inverse_) (G_lowest_ := G_lowest_) (g_lowest_ := g_lowest_) (k_lowest_ := k_lowest_) (b_lowest_ := b_lowest_)
  have G_check_two_ := ok_check_two (P := P) (w := w) (mg := mg) (base := base) (F := F_check_two_) (G_check_number := G_check_number) (g_check_number := g_check_number) (k_check_number := k_check_number) (b_check_number := b_check_number)
  have G_times := ok_times (P := P) (w := w) (mg := mg) (base := base) (F := F_times) (G_check_two_ := G_check_two_) (g_check_two_ := g_check_two_) (k_check_two_ := k_check_two_) (b_check_two_ := b_check_two_) (G_number := G_number) (g_number := g_number) (k_number := k_number) (b_number := b_number)
  have G_power := ok_power (P := P) (w := w) (mg := mg) (base := base) (F := F_power) (T := E_BadNumber) (z_range := z_range) (m_MOST_POWER := m_MOST_POWER) (m_ONE := m_ONE) (tO := tO) (G_check_number := G_check_number) (g_check_number := g_check_number) (k_check_number := k_check_number) (b_check_number := b_check_number) (G_times := G_times) (g_times := g_times) (k_times := k_times) (b_times := b_times)
  have G_loop_worth := ok_loop_worth (P := P) (w := w) (mg := mg) (base := base) (F := F_loop_worth) (G_check_world := G_check_world) (g_check_world := g_check_world) (k_check_world := k_check_world) (b_check_world := b_check_world)
  have G_is_size_ := ok_is_size_ (P := P) (w := w) (mg := mg) (base := base) (F := F_is_size_) (m_MOST_ON_A_SIDE := m_MOST_ON_A_SIDE) (m_MOST_POINTS := m_MOST_POINTS)
  have G_check_size_ := ok_check_size_ (P := P) (w := w) (mg := mg) (base := base) (F := F_check_size_) (T := E_BadNumber) (G_is_size_ := G_is_size_) (g_is_size_ := g_is_size_) (k_is_size_ := k_is_size_) (b_is_size_ := b_is_size_)
  have G_is_diagram := ok_is_diagram (P := P) (w := w) (mg := mg) (base := base) (F := F_is_diagram) (z_len := z_len) (z_list := z_list) (z_range := z_range) (z_sorted := z_sorted) (z_all := z_all) (G_is_size_ := G_is_size_) (g_is_size_ := g_is_size_) (k_is_size_ := k_is_size_) (b_is_size_ := b_is_size_)
  have G_check_diagram := ok_check_diagram (P := P) (w := w) (mg := mg) (base := base) (F := F_check_diagram) (T := E_NotDiagram) (G_is_diagram := G_is_diagram) (g_is_diagram := g_is_diagram) (k_is_diagram := k_is_diagram) (b_is_diagram := b_is_diagram)
  have G_labels := ok_labels (P := P) (w := w) (mg := mg) (base := base) (F := F_labels) (z_enumerate := z_enumerate) (z_range := z_range) (G_check_diagram := G_check_diagram) (g_check_diagram := g_check_diagram) (k_check_diagram := k_check_diagram) (b_check_diagram := b_check_diagram)
  have G_from_labels := ok_from_labels (P := P) (w := w) (mg := mg) (base := base) (F := F_from_labels) (T := E_BadNumber) (z_len := z_len) (z_enumerate := z_enumerate) (z_tuple := z_tuple) (G_check_size_ := G_check_size_) (g_check_size_ := g_check_size_) (k_check_size_ := k_check_size_) (b_check_size_ := b_check_size_)
  have G_check_family := ok_check_family (P := P) (w := w) (mg := mg) (base := base) (F := F_check_family) (T := E_NotFamily) (m_FAMILIES := m_FAMILIES) (tF := tF)
  have G_is_strand_ := ok_is_strand_ (P := P) (w := w) (mg := mg) (base := base) (F := F_is_strand_) (z_len := z_len)
  have G_is_block_size_ := ok_is_block_size_ (P := P) (w := w) (mg := mg) (base := base) (F := F_is_block_size_)
  have G_is_block_of_ := ok_is_block_of_ (P := P) (w := w) (mg := mg) (base := base) (F := F_is_block_of_) (z_len := z_len) (G_is_strand_ := G_is_strand_) (g_is_strand_ := g_is_strand_) (k_is_strand_ := k_is_strand_) (b_is_strand_ := b_is_strand_) (G_is_block_size_ := G_is_block_size_) (g_is_block_size_ := g_is_block_size_) (k_is_block_size_ := k_is_block_size_) (b_is_block_size_ := b_is_block_size_)
  have G_is_in := ok_is_in (P := P) (w := w) (mg := mg) (base := base) (F := F_is_in) (z_all := z_all) (G_check_family := G_check_family) (g_check_family := g_check_family) (k_check_family := k_check_family) (b_check_family := b_check_family) (G_check_diagram := G_check_diagram) (g_check_diagram := g_check_diagram) (k_check_diagram := k_check_diagram) (b_check_diagram := b_check_diagram) (G_is_block_of_ := G_is_block_of_) (g_is_block_of_ := g_is_block_of_) (k_is_block_of_ := k_is_block_of_) (b_is_block_of_ := b_is_block_of_)
  have G_counted_by_last_ := ok_counted_by_last_ (P := P) (w := w) (mg := mg) (base := base) (F := F_counted_by_last_) (z_range := z_range) (z_sum := z_sum) (m_comb := m_comb) (G_is_block_size_ := G_is_block_size_) (g_is_block_size_ := g_is_block_size_) (k_is_block_size_ := k_is_block_size_) (b_is_block_size_ := b_is_block_size_)
  have G_counted := ok_counted (P := P) (w := w) (mg := mg) (base := base) (F := F_counted) (z_range := z_range) (z_sum := z_sum) (z_min := z_min) (m_comb := m_comb) (m_factorial := m_factorial) (G_check_family := G_check_family) (g_check_family := g_check_family) (k_check_family := k_check_family) (b_check_family := b_check_family) (G_check_size_ := G_check_size_) (g_check_size_ := g_check_size_) (k_check_size_ := k_check_size_) (b_check_size_ := b_check_size_) (G_counted_by_last_ := G_counted_by_last_) (g_counted_by_last_ := g_counted_by_last_) (k_counted_by_last_ := k_counted_by_last_) (b_counted_by_last_ := b_counted_by_last_)
  have G_may_follow_ := ok_may_follow_ (P := P) (w := w) (mg := mg) (base := base) (F := F_may_follow_) (z_len := z_len)
  have G_label_rows_ := ok_label_rows_ (P := P) (w := w) (mg := mg) (base := base) (F := F_label_rows_) (z_range := z_range) (z_max := z_max) (G_may_follow_ := G_may_follow_) (g_may_follow_ := g_may_follow_) (k_may_follow_ := k_may_follow_) (b_may_follow_ := b_may_follow_)
  have G_listed := ok_listed (P := P) (w := w) (mg := mg) (base := base) (F := F_listed) (T := E_TooLarge) (m_MOST_LISTED := m_MOST_LISTED) (G_counted := G_counted) (g_counted := g_counted) (k_counted := k_counted) (b_counted := b_counted) (G_label_rows_ := G_label_rows_) (g_label_rows_ := g_label_rows_) (k_label_rows_ := k_label_rows_) (b_label_rows_ := b_label_rows_) (G_from_labels := G_from_labels) (g_from_labels := g_from_labels) (k_from_labels := k_from_labels) (b_from_labels := b_from_labels) (G_is_in := G_is_in) (g_is_in := g_is_in) (k_is_in := k_is_in) (b_is_in := b_is_in)
  have G_root_ := ok_root_ (P := P) (w := w) (mg := mg) (base := base) (F := F_root_)
  have G_piece_marks := ok_piece_marks (P := P) (w := w) (mg := mg) (base := base) (F := F_piece_marks) (z_list := z_list) (z_range := z_range) (G_root_ := G_root_) (g_root_ := g_root_) (k_root_ := k_root_) (b_root_ := b_root_)
  have G_hidden_count := ok_hidden_count (P := P) (w := w) (mg := mg) (base := base) (F := F_hidden_count) (z_len := z_len) (z_set := z_set)
  have G_put := ok_put (P := P) (w := w) (mg := mg) (base := base) (F := F_put) (TB := E_BadNumber) (TT0 := E_TooLarge) (z_list := z_list) (m_MOST_POINTS := m_MOST_POINTS) (G_check_diagram := G_check_diagram) (g_check_diagram := g_check_diagram) (k_check_diagram := k_check_diagram) (b_check_diagram := b_check_diagram) (G_piece_marks := G_piece_marks) (g_piece_marks := g_piece_marks) (k_piece_marks := k_piece_marks) (b_piece_marks := b_piece_marks) (G_hidden_count := G_hidden_count) (g_hidden_count := g_hidden_count) (k_hidden_count := k_hidden_count) (b_hidden_count := b_hidden_count) (G_from_labels := G_from_labels) (g_from_labels := g_from_labels) (k_from_labels := k_from_labels) (b_from_labels := b_from_labels)
  have G_closed_end := ok_closed_end (P := P) (w := w) (mg := mg) (base := base) (F := F_closed_end) (T := E_BadNumber) (z_list := z_list) (z_range := z_range) (z_min := z_min) (G_check_diagram := G_check_diagram) (g_check_diagram := g_check_diagram) (k_check_diagram := k_check_diagram) (b_check_diagram := b_check_diagram) (G_piece_marks := G_piece_marks) (g_piece_marks := g_piece_marks) (k_piece_marks := k_piece_marks) (b_piece_marks := b_piece_marks) (G_hidden_count := G_hidden_count) (g_hidden_count := g_hidden_count) (k_hidden_count := k_hidden_count) (b_hidden_count := b_hidden_count) (G_from_labels := G_from_labels) (g_from_labels := g_from_labels) (k_from_labels := k_from_labels) (b_from_labels := b_from_labels)
  have G_closing := ok_closing (P := P) (w := w) (mg := mg) (base := base) (F := F_closing) (T := E_BadNumber) (G_check_diagram := G_check_diagram) (g_check_diagram := g_check_diagram) (k_check_diagram := k_check_diagram) (b_check_diagram := b_check_diagram) (G_closed_end := G_closed_end) (g_closed_end := g_closed_end) (k_closed_end := k_closed_end) (b_closed_end := b_closed_end)
  have G_over := ok_over (P := P) (w := w) (mg := mg) (base := base) (F := F_over) (G_labels := G_labels) (g_labels := g_labels) (k_labels := k_labels) (b_labels := b_labels) (G_from_labels := G_from_labels) (g_from_labels := g_from_labels) (k_from_labels := k_from_labels) (b_from_labels := b_from_labels)
  have G_piece_count := ok_piece_count (P := P) (w := w) (mg := mg) (base := base) (F := F_piece_count) (z_len := z_len) (z_set := z_set) (G_piece_marks := G_piece_marks) (g_piece_marks := g_piece_marks) (k_piece_marks := k_piece_marks) (b_piece_marks := b_piece_marks)
  have G_law_marked := ok_law_marked (P := P) (w := w) (mg := mg) (base := base) (F := F_law_marked) (z_tuple := z_tuple) (z_range := z_range) (z_len := z_len)
  have G_law_belongs := ok_law_belongs (P := P) (w := w) (mg := mg) (base := base) (F := F_law_belongs) (z_len := z_len) (z_int := z_int)
  have G_law_all := ok_law_all (P := P) (w := w) (mg := mg) (base := base) (F := F_law_all) (z_range := z_range) (z_max := z_max) (G_law_marked := G_law_marked) (g_law_marked := g_law_marked) (k_law_marked := k_law_marked) (b_law_marked := b_law_marked) (G_law_belongs := G_law_belongs) (g_law_belongs := g_law_belongs) (k_law_belongs := k_law_belongs) (b_law_belongs := b_law_belongs)
  have G_law_marks := ok_law_marks (P := P) (w := w) (mg := mg) (base := base) (F := F_law_marks) (z_len := z_len) (z_range := z_range)
  have G_law_glued := ok_law_glued (P := P) (w := w) (mg := mg) (base := base) (F := F_law_glued)
  have G_law_kinds := ok_law_kinds (P := P) (w := w) (mg := mg) (base := base) (F := F_law_kinds) (z_len := z_len)
  have G_piece_marksT := ok_piece_marksT (P := P) (w := w) (mg := mg) (base := base) (F := F_piece_marks) (z_list := z_list) (z_range := z_range) (G_root_ := G_root_) (g_root_ := g_root_) (k_root_ := k_root_) (b_root_ := b_root_)
  have G_piece_countT := ok_piece_countT (P := P) (w := w) (mg := mg) (base := base) (F := F_piece_count) (z_len := z_len) (z_set := z_set) (G_piece_marks := G_piece_marksT) (g_piece_marks := g_piece_marks) (k_piece_marks := k_piece_marks) (b_piece_marks := b_piece_marks)
  have G_joined_pieces := ok_joined_pieces (P := P) (w := w) (mg := mg) (base := base) (F := F_joined_pieces) (G_piece_count := G_piece_countT) (g_piece_count := g_piece_count) (k_piece_count := k_piece_count) (b_piece_count := b_piece_count)
  have G_joined := ok_joined (P := P) (w := w) (mg := mg) (base := base) (F := F_joined) (T := E_BadNumber) (G_check_diagram := G_check_diagram) (g_check_diagram := g_check_diagram) (k_check_diagram := k_check_diagram) (b_check_diagram := b_check_diagram) (G_joined_pieces := G_joined_pieces) (g_joined_pieces := g_joined_pieces) (k_joined_pieces := k_joined_pieces) (b_joined_pieces := b_joined_pieces)
  have G_loop_powers := ok_loop_powers (P := P) (w := w) (mg := mg) (base := base) (F := F_loop_powers) (z_range := z_range) (G_power := G_power) (g_power := g_power) (k_power := k_power) (b_power := b_power) (G_loop_worth := G_loop_worth) (g_loop_worth := g_loop_worth) (k_loop_worth := k_loop_worth) (b_loop_worth := b_loop_worth)
  have G_closings := ok_closings (P := P) (w := w) (mg := mg) (base := base) (F := F_closings) (z_len := z_len) (z_enumerate := z_enumerate) (G_listed := G_listed) (g_listed := g_listed) (k_listed := k_listed) (b_listed := b_listed) (G_joined_pieces := G_joined_pieces) (g_joined_pieces := g_joined_pieces) (k_joined_pieces := k_joined_pieces) (b_joined_pieces := b_joined_pieces)
  have G_worths := ok_worths (P := P) (w := w) (mg := mg) (base := base) (F := F_worths) (G_check_world := G_check_world) (g_check_world := g_check_world) (k_check_world := k_check_world) (b_check_world := b_check_world) (G_closings := G_closings) (g_closings := g_closings) (k_closings := k_closings) (b_closings := b_closings) (G_loop_powers := G_loop_powers) (g_loop_powers := g_loop_powers) (k_loop_powers := k_loop_powers) (b_loop_powers := b_loop_powers)
  have G_law_world := ok_law_world (P := P) (w := w) (mg := mg) (base := base) (F := F_law_world) (z_int := z_int) (G_law_next := G_law_next) (g_law_next := g_law_next) (k_law_next := k_law_next) (b_law_next := b_law_next)
  have G_law_family := ok_law_family (P := P) (w := w) (mg := mg) (base := base) (F := F_law_family) (z_int := z_int) (G_law_next := G_law_next) (g_law_next := g_law_next) (k_law_next := k_law_next) (b_law_next := b_law_next)
  have G_law_shape := ok_law_shape (P := P) (w := w) (mg := mg) (base := base) (F := F_law_shape) (z_int := z_int) (z_min := z_min) (G_law_next := G_law_next) (g_law_next := g_law_next) (k_law_next := k_law_next) (b_law_next := b_law_next) (G_law_family := G_law_family) (g_law_family := g_law_family) (k_law_family := k_law_family) (b_law_family := b_law_family)
  have G_law_times := ok_law_times (P := P) (w := w) (mg := mg) (base := base) (F := F_law_times) (z_int := z_int)
  have G_law_power := ok_law_power (P := P) (w := w) (mg := mg) (base := base) (F := F_law_power) (z_range := z_range) (G_law_times := G_law_times) (g_law_times := g_law_times) (k_law_times := k_law_times) (b_law_times := b_law_times)
  have G_law_joined := ok_law_joined (P := P) (w := w) (mg := mg) (base := base) (F := F_law_joined) (G_law_kinds := G_law_kinds) (g_law_kinds := g_law_kinds) (k_law_kinds := k_law_kinds) (b_law_kinds := b_law_kinds) (G_law_glued := G_law_glued) (g_law_glued := g_law_glued) (k_law_glued := k_law_glued) (b_law_glued := b_law_glued) (G_law_marks := G_law_marks) (g_law_marks := g_law_marks) (k_law_marks := k_law_marks) (b_law_marks := b_law_marks)
  have G_law_kind := ok_law_kind (P := P) (w := w) (mg := mg) (base := base) (F := F_law_kind) (m_WorthError := m_WorthError) (m_NotWorld := m_NotWorld) (m_NotFamily := m_NotFamily) (m_NotDiagram := m_NotDiagram) (m_NotNumber := m_NotNumber) (m_BadNumber := m_BadNumber) (m_TooLarge := m_TooLarge) (z_isinstance := z_isinstance) (z_len := z_len)
  have G_law_told := ok_law_told (P := P) (w := w) (mg := mg) (base := base) (F := F_law_told) (T := T_told) (G_closings := G_closings) (g_closings := g_closings) (k_closings := k_closings) (b_closings := b_closings) (G_worths := G_worths) (g_worths := g_worths) (k_worths := k_worths) (b_worths := b_worths) (G_law_kind := G_law_kind) (g_law_kind := g_law_kind) (k_law_kind := k_law_kind) (b_law_kind := b_law_kind)
  have G_law_pair := ok_law_pair (P := P) (w := w) (mg := mg) (base := base) (F := F_law_pair) (T := T_told) (G_joined := G_joined) (g_joined := g_joined) (k_joined := k_joined) (b_joined := b_joined) (G_law_kind := G_law_kind) (g_law_kind := g_law_kind) (k_law_kind := k_law_kind) (b_law_kind := b_law_kind)
  exact ok_law (P := P) (w := w) (mg := mg) (base := base) (F := F_law) (z_int := z_int) (z_range := z_range) (z_repr := z_repr) (z_len := z_len) (z_min := z_min) (z_isinstance := z_isinstance) (z_bool := z_bool) (G_law_draws := G_law_draws) (g_law_draws := g_law_draws) (k_law_draws := k_law_draws) (b_law_draws := b_law_draws) (G_law_next := G_law_next) (g_law_next := g_law_next) (k_law_next := k_law_next) (b_law_next := b_law_next) (G_law_world := G_law_world) (g_law_world := g_law_world) (k_law_world := k_law_world) (b_law_world := b_law_world) (G_law_shape := G_law_shape) (g_law_shape := g_law_shape) (k_law_shape := k_law_shape) (b_law_shape := b_law_shape) (G_law_all := G_law_all) (g_law_all := g_law_all) (k_law_all := k_law_all) (b_law_all := b_law_all) (G_law_joined := G_law_joined) (g_law_joined := g_law_joined) (k_law_joined := k_law_joined) (b_law_joined := b_law_joined) (G_law_told := G_law_told) (g_law_told := g_law_told) (k_law_told := k_law_told) (b_law_told := b_law_told) (G_law_power := G_law_power) (g_law_power := g_law_power) (k_law_power := k_law_power) (b_law_power := b_law_power) (G_law_pair := G_law_pair) (g_law_pair := g_law_pair) (k_law_pair := k_law_pair) (b_law_pair := b_law_pair) (G_put := G_put) (g_put := g_put) (k_put := k_put) (b_put := b_put) (G_over := G_over) (g_over := g_over) (k_over := k_over) (b_over := b_over) (G_closing := G_closing) (g_closing := g_closing) (k_closing := k_closing) (b_closing := b_closing)
end T
open PySem PySem.W PyProof.Rows
set_option maxHeartbeats 0 in
theorem PySem.Challenge.cw_threadworth_k48_closings_and_worths_holds : PySem.Challenge.rw_threadworth_k48_closings_and_worths.Holds := by
  w_on; o_law; k_head; (case hw => w_witness2)
  k_fill
  refine L2.walk_ofG (l := PySem.Challenge.rw_threadworth_k48_closings_and_worths) (n := 63) (k := 12) (x := "script") (sp := fun w => T.spLaw _) rfl (by decide) rfl ⟨rfl, by decide, by decide⟩ (fun w h Y => PySem.W.kIn_of Y) ?F (fun _ _ a ns hl hS => ⟨a, ns, rfl, hS, hl, fun _ => rfl⟩)
  case F =>
    intro w mg fa h KX G hmg
    refine' T.all_mk KX G hmg ?a_is_world ?l_is_world ?c_is_world ?k_is_world ?a_law_number ?l_law_number ?c_law_number ?k_law_number ?a_law_next ?l_law_next ?c_law_next ?k_law_next ?a_law_draws ?l_law_draws ?c_law_draws ?k_law_draws ?a_check_world ?l_check_world ?c_check_world ?k_check_world ?a_is_number ?l_is_number ?c_is_number ?k_is_number ?a_check_number ?l_check_number ?c_check_number ?k_check_number ?a_lowest_ ?l_lowest_ ?c_lowest_ ?k_lowest_ ?a_inverse_ ?l_inverse_ ?c_inverse_ ?k_inverse_ ?a_number ?l_number ?c_number ?k_number ?a_check_two_ ?l_check_two_ ?c_check_two_ ?k_check_two_ ?a_times ?l_times ?c_times ?k_times ?a_power ?l_power ?c_power ?k_power ?a_loop_worth ?l_loop_worth ?c_loop_worth ?k_loop_worth ?a_is_size_ ?l_is_size_ ?c_is_size_ ?k_is_size_ ?a_check_size_ ?l_check_size_ ?c_check_size_ ?k_check_size_ ?a_is_diagram ?l_is_diagram ?c_is_diagram ?k_is_diagram ?a_check_diagram ?l_check_diagram ?c_check_diagram ?k_check_diagram ?a_labels ?l_labels ?c_labels ?k_labels ?a_from_labels ?l_from_labels ?c_from_labels ?k_from_labels ?a_check_family ?l_check_family ?c_check_family ?k_check_family ?a_is_strand_ ?l_is_strand_ ?c_is_strand_ ?k_is_strand_ ?a_is_block_size_ ?l_is_block_size_ ?c_is_block_size_ ?k_is_block_size_ ?a_is_block_of_ ?l_is_block_of_ ?c_is_block_of_ ?k_is_block_of_ ?a_is_in ?l_is_in ?c_is_in ?k_is_in ?a_counted_by_last_ ?l_counted_by_last_ ?c_counted_by_last_ ?k_counted_by_last_ ?a_counted ?l_counted ?c_counted ?k_counted ?a_may_follow_ ?l_may_follow_ ?c_may_follow_ ?k_may_follow_ ?a_label_rows_ ?l_label_rows_ ?c_label_rows_ ?k_label_rows_ ?a_listed ?l_listed ?c_listed ?k_listed ?a_root_ ?l_root_ ?c_root_ ?k_root_ ?a_piece_marks ?l_piece_marks ?c_piece_marks ?k_piece_marks ?a_hidden_count ?l_hidden_count ?c_hidden_count ?k_hidden_count ?a_put ?l_put ?c_put ?k_put ?a_closed_end ?l_closed_end ?c_closed_end ?k_closed_end ?a_closing ?l_closing ?c_closing ?k_closing ?a_over ?l_over ?c_over ?k_over ?a_piece_count ?l_piece_count ?c_piece_count ?k_piece_count ?a_law_marked ?l_law_marked ?c_law_marked ?k_law_marked ?a_law_belongs ?l_law_belongs ?c_law_belongs ?k_law_belongs ?a_law_all ?l_law_all ?c_law_all ?k_law_all ?a_law_marks ?l_law_marks ?c_law_marks ?k_law_marks ?a_law_glued ?l_law_glued ?c_law_glued ?k_law_glued ?a_law_kinds ?l_law_kinds ?c_law_kinds ?k_law_kinds ?a_joined_pieces ?l_joined_pieces ?c_joined_pieces ?k_joined_pieces ?a_joined ?l_joined ?c_joined ?k_joined ?a_loop_powers ?l_loop_powers ?c_loop_powers ?k_loop_powers ?a_closings ?l_closings ?c_closings ?k_closings ?a_worths ?l_worths ?c_worths ?k_worths ?a_law_world ?l_law_world ?c_law_world ?k_law_world ?a_law_family ?l_law_family ?c_law_family ?k_law_family ?a_law_shape ?l_law_shape ?c_law_shape ?k_law_shape ?a_law_times ?l_law_times ?c_law_times ?k_law_times ?a_law_power ?l_law_power ?c_law_power ?k_law_power ?a_law_joined ?l_law_joined ?c_law_joined ?k_law_joined ?a_law_kind ?l_law_kind ?c_law_kind ?k_law_kind ?a_law_told ?l_law_told ?c_law_told ?k_law_told ?a_law_pair ?l_law_pair ?c_law_pair ?k_law_pair ?a_law ?l_law ?c_law ?k_law ?zn_int ?zn_range ?zn_len ?zn_list ?zn_tuple ?zn_max ?zn_min ?zn_all ?zn_any ?zn_sorted ?zn_repr ?zn_isinstance ?zn_enumerate ?zn_str ?zn_set ?zn_divmod ?zn_sum ?zn_abs ?zn_bool ?n_gcd ?n_PRIMES ?l_PRIMES ?n_NotWorld ?x_NotWorld ?kc_NotWorld ?bc_NotWorld ?tc_NotWorld ?n_NotNumber ?x_NotNumber ?kc_NotNumber ?bc_NotNumber ?tc_NotNumber ?n_BadNumber ?x_BadNumber ?kc_BadNumber ?bc_BadNumber ?tc_BadNumber ?n_NotDiagram ?x_NotDiagram ?kc_NotDiagram ?bc_NotDiagram ?tc_NotDiagram ?n_TooLarge ?x_TooLarge ?kc_TooLarge ?bc_TooLarge ?tc_TooLarge ?n_NotFamily ?x_NotFamily ?kc_NotFamily ?bc_NotFamily ?tc_NotFamily ?ld_number ?n_MOST_ON_A_SIDE ?n_MOST_POINTS ?n_MOST_LISTED ?n_MOST_POWER ?n_comb ?n_factorial ?n_ONE ?l_ONE ?n_FAMILIES ?l_FAMILIES ?n_WorthError ?ebc ?ehd ?ety ?hn_cls ?ht_cls ?hg_NotWorld ?hk_NotWorld ?hd_NotWorld ?ha_NotWorld ?hm_NotWorld ?sE_NotWorld ?tE_NotWorld ?t_NotWorld_NotWorld ?t_NotWorld_NotFamily ?t_NotWorld_NotDiagram ?t_NotWorld_NotNumber ?t_NotWorld_BadNumber ?t_NotWorld_TooLarge ?hg_NotFamily ?hk_NotFamily ?hd_NotFamily ?ha_NotFamily ?hm_NotFamily ?sE_NotFamily ?tE_NotFamily ?t_NotFamily_NotWorld ?t_NotFamily_NotFamily ?t_NotFamily_NotDiagram ?t_NotFamily_NotNumber ?t_NotFamily_BadNumber ?t_NotFamily_TooLarge ?hg_NotDiagram ?hk_NotDiagram ?hd_NotDiagram ?ha_NotDiagram ?hm_NotDiagram ?sE_NotDiagram ?tE_NotDiagram ?t_NotDiagram_NotWorld ?t_NotDiagram_NotFamily ?t_NotDiagram_NotDiagram ?t_NotDiagram_NotNumber ?t_NotDiagram_BadNumber ?t_NotDiagram_TooLarge ?hg_BadNumber ?hk_BadNumber ?hd_BadNumber ?ha_BadNumber ?hm_BadNumber ?sE_BadNumber ?tE_BadNumber ?t_BadNumber_NotWorld ?t_BadNumber_NotFamily ?t_BadNumber_NotDiagram ?t_BadNumber_NotNumber ?t_BadNumber_BadNumber ?t_BadNumber_TooLarge ?hg_TooLarge ?hk_TooLarge ?hd_TooLarge ?ha_TooLarge ?hm_TooLarge ?sE_TooLarge ?tE_TooLarge ?t_TooLarge_NotWorld ?t_TooLarge_NotFamily ?t_TooLarge_NotDiagram ?t_TooLarge_NotNumber ?t_TooLarge_BadNumber ?t_TooLarge_TooLarge
    (case a_is_world => k_is); (case l_is_world => k_is); (case c_is_world => k_is); (case k_is_world => k_is); (case a_law_number => k_is); (case l_law_number => k_is); (case c_law_number => k_is); (case k_law_number => k_is)
    (case a_law_next => k_is); (case l_law_next => k_is); (case c_law_next => k_is); (case k_law_next => k_is); (case a_law_draws => k_is); (case l_law_draws => k_is); (case c_law_draws => k_is); (case k_law_draws => k_is)
    (case a_check_world => k_is); (case l_check_world => k_is); (case c_check_world => k_is); (case k_check_world => k_is); (case a_is_number => k_is); (case l_is_number => k_is); (case c_is_number => k_is); (case k_is_number => k_is)
    (case a_check_number => k_is); (case l_check_number => k_is); (case c_check_number => k_is); (case k_check_number => k_is); (case a_lowest_ => k_is); (case l_lowest_ => k_is); (case c_lowest_ => k_is); (case k_lowest_ => k_is)
    (case a_inverse_ => k_is); (case l_inverse_ => k_is); (case c_inverse_ => k_is); (case k_inverse_ => k_is); (case a_number => k_is); (case l_number => k_is); (case c_number => k_is); (case k_number => k_is)
    (case a_check_two_ => k_is); (case l_check_two_ => k_is); (case c_check_two_ => k_is); (case k_check_two_ => k_is); (case a_times => k_is); (case l_times => k_is); (case c_times => k_is); (case k_times => k_is)
    (case a_power => k_is); (case l_power => k_is); (case c_power => k_is); (case k_power => k_is); (case a_loop_worth => k_is); (case l_loop_worth => k_is); (case c_loop_worth => k_is); (case k_loop_worth => k_is)
    (case a_is_size_ => k_is); (case l_is_size_ => k_is); (case c_is_size_ => k_is); (case k_is_size_ => k_is); (case a_check_size_ => k_is); (case l_check_size_ => k_is); (case c_check_size_ => k_is); (case k_check_size_ => k_is)
    (case a_is_diagram => k_is); (case l_is_diagram => k_is); (case c_is_diagram => k_is); (case k_is_diagram => k_is); (case a_check_diagram => k_is); (case l_check_diagram => k_is); (case c_check_diagram => k_is); (case k_check_diagram => k_is)
    (case a_labels => k_is); (case l_labels => k_is); (case c_labels => k_is); (case k_labels => k_is); (case a_from_labels => k_is); (case l_from_labels => k_is); (case c_from_labels => k_is); (case k_from_labels => k_is)
    (case a_check_family => k_is); (case l_check_family => k_is); (case c_check_family => k_is); (case k_check_family => k_is); (case a_is_strand_ => k_is); (case l_is_strand_ => k_is); (case c_is_strand_ => k_is); (case k_is_strand_ => k_is)
    (case a_is_block_size_ => k_is); (case l_is_block_size_ => k_is); (case c_is_block_size_ => k_is); (case k_is_block_size_ => k_is); (case a_is_block_of_ => k_is); (case l_is_block_of_ => k_is); (case c_is_block_of_ => k_is); (case k_is_block_of_ => k_is)
    (case a_is_in => k_is); (case l_is_in => k_is); (case c_is_in => k_is); (case k_is_in => k_is); (case a_counted_by_last_ => k_is); (case l_counted_by_last_ => k_is); (case c_counted_by_last_ => k_is); (case k_counted_by_last_ => k_is)
    (case a_counted => k_is); (case l_counted => k_is); (case c_counted => k_is); (case k_counted => k_is); (case a_may_follow_ => k_is); (case l_may_follow_ => k_is); (case c_may_follow_ => k_is); (case k_may_follow_ => k_is)
    (case a_label_rows_ => k_is); (case l_label_rows_ => k_is); (case c_label_rows_ => k_is); (case k_label_rows_ => k_is); (case a_listed => k_is); (case l_listed => k_is); (case c_listed => k_is); (case k_listed => k_is)
    (case a_root_ => k_is); (case l_root_ => k_is); (case c_root_ => k_is); (case k_root_ => k_is); (case a_piece_marks => k_is); (case l_piece_marks => k_is); (case c_piece_marks => k_is); (case k_piece_marks => k_is)
    (case a_hidden_count => k_is); (case l_hidden_count => k_is); (case c_hidden_count => k_is); (case k_hidden_count => k_is); (case a_put => k_is); (case l_put => k_is); (case c_put => k_is); (case k_put => k_is)
    (case a_closed_end => k_is); (case l_closed_end => k_is); (case c_closed_end => k_is); (case k_closed_end => k_is); (case a_closing => k_is); (case l_closing => k_is); (case c_closing => k_is); (case k_closing => k_is)
    (case a_over => k_is); (case l_over => k_is); (case c_over => k_is); (case k_over => k_is); (case a_piece_count => k_is); (case l_piece_count => k_is); (case c_piece_count => k_is); (case k_piece_count => k_is)
    (case a_law_marked => k_is); (case l_law_marked => k_is); (case c_law_marked => k_is); (case k_law_marked => k_is); (case a_law_belongs => k_is); (case l_law_belongs => k_is); (case c_law_belongs => k_is); (case k_law_belongs => k_is)
    (case a_law_all => k_is); (case l_law_all => k_is); (case c_law_all => k_is); (case k_law_all => k_is); (case a_law_marks => k_is); (case l_law_marks => k_is); (case c_law_marks => k_is); (case k_law_marks => k_is)
    (case a_law_glued => k_is); (case l_law_glued => k_is); (case c_law_glued => k_is); (case k_law_glued => k_is); (case a_law_kinds => k_is); (case l_law_kinds => k_is); (case c_law_kinds => k_is); (case k_law_kinds => k_is)
    (case a_joined_pieces => k_is); (case l_joined_pieces => k_is); (case c_joined_pieces => k_is); (case k_joined_pieces => k_is); (case a_joined => k_is); (case l_joined => k_is); (case c_joined => k_is); (case k_joined => k_is)
    (case a_loop_powers => k_is); (case l_loop_powers => k_is); (case c_loop_powers => k_is); (case k_loop_powers => k_is); (case a_closings => k_is); (case l_closings => k_is); (case c_closings => k_is); (case k_closings => k_is)
    (case a_worths => k_is); (case l_worths => k_is); (case c_worths => k_is); (case k_worths => k_is); (case a_law_world => k_is); (case l_law_world => k_is); (case c_law_world => k_is); (case k_law_world => k_is)
    (case a_law_family => k_is); (case l_law_family => k_is); (case c_law_family => k_is); (case k_law_family => k_is); (case a_law_shape => k_is); (case l_law_shape => k_is); (case c_law_shape => k_is); (case k_law_shape => k_is)
    (case a_law_times => k_is); (case l_law_times => k_is); (case c_law_times => k_is); (case k_law_times => k_is); (case a_law_power => k_is); (case l_law_power => k_is); (case c_law_power => k_is); (case k_law_power => k_is)
    (case a_law_joined => k_is); (case l_law_joined => k_is); (case c_law_joined => k_is); (case k_law_joined => k_is); (case a_law_kind => k_is); (case l_law_kind => k_is); (case c_law_kind => k_is); (case k_law_kind => k_is)
    (case a_law_told => k_is); (case l_law_told => k_is); (case c_law_told => k_is); (case k_law_told => k_is); (case a_law_pair => k_is); (case l_law_pair => k_is); (case c_law_pair => k_is); (case k_law_pair => k_is)
    (case a_law => k_is); (case l_law => k_is); (case c_law => k_is); (case k_law => k_is); (case zn_int => k_is); (case zn_range => k_is); (case zn_len => k_is); (case zn_list => k_is)
    (case zn_tuple => k_is); (case zn_max => k_is); (case zn_min => k_is); (case zn_all => k_is); (case zn_any => k_is); (case zn_sorted => k_is); (case zn_repr => k_is); (case zn_isinstance => k_is)
    (case zn_enumerate => k_is); (case zn_str => k_is); (case zn_set => k_is); (case zn_divmod => k_is); (case zn_sum => k_is); (case zn_abs => k_is); (case zn_bool => k_is); (case n_gcd => k_is)
    (case n_PRIMES => k_is); (case l_PRIMES => k_is); (case n_NotWorld => k_is); (case x_NotWorld => k_exc); (case kc_NotWorld => k_is); (case bc_NotWorld => k_is); (case tc_NotWorld => k_is); (case n_NotNumber => k_is)
    (case x_NotNumber => k_exc); (case kc_NotNumber => k_is); (case bc_NotNumber => k_is); (case tc_NotNumber => k_is); (case n_BadNumber => k_is); (case x_BadNumber => k_exc); (case kc_BadNumber => k_is); (case bc_BadNumber => k_is)
    (case tc_BadNumber => k_is); (case n_NotDiagram => k_is); (case x_NotDiagram => k_exc); (case kc_NotDiagram => k_is); (case bc_NotDiagram => k_is); (case tc_NotDiagram => k_is); (case n_TooLarge => k_is); (case x_TooLarge => k_exc)
    (case kc_TooLarge => k_is); (case bc_TooLarge => k_is); (case tc_TooLarge => k_is); (case n_NotFamily => k_is); (case x_NotFamily => k_exc); (case kc_NotFamily => k_is); (case bc_NotFamily => k_is); (case tc_NotFamily => k_is)
    (case ld_number => k_is); (case n_MOST_ON_A_SIDE => k_is); (case n_MOST_POINTS => k_is); (case n_MOST_LISTED => k_is); (case n_MOST_POWER => k_is); (case n_comb => k_is); (case n_factorial => k_is); (case n_ONE => k_is)
    (case l_ONE => k_is); (case n_FAMILIES => k_is); (case l_FAMILIES => k_is); (case n_WorthError => k_is); (case ebc => k_is); (case ehd => k_is); (case ety => k_is); (case hn_cls => k_is)
    (case ht_cls => k_is); (case hg_NotWorld => k_is); (case hk_NotWorld => k_is); (case hd_NotWorld => k_is); (case ha_NotWorld => k_is); (case hm_NotWorld => k_is); (case sE_NotWorld => k_is); (case tE_NotWorld => kit_is)
    (case t_NotWorld_NotWorld => kit_is); (case t_NotWorld_NotFamily => kit_is); (case t_NotWorld_NotDiagram => kit_is); (case t_NotWorld_NotNumber => kit_is); (case t_NotWorld_BadNumber => kit_is); (case t_NotWorld_TooLarge => kit_is); (case hg_NotFamily => k_is); (case hk_NotFamily => k_is)
    (case hd_NotFamily => k_is); (case ha_NotFamily => k_is); (case hm_NotFamily => k_is); (case sE_NotFamily => k_is); (case tE_NotFamily => kit_is); (case t_NotFamily_NotWorld => kit_is); (case t_NotFamily_NotFamily => kit_is); (case t_NotFamily_NotDiagram => kit_is)
    (case t_NotFamily_NotNumber => kit_is); (case t_NotFamily_BadNumber => kit_is); (case t_NotFamily_TooLarge => kit_is); (case hg_NotDiagram => k_is); (case hk_NotDiagram => k_is); (case hd_NotDiagram => k_is); (case ha_NotDiagram => k_is); (case hm_NotDiagram => k_is)
    (case sE_NotDiagram => k_is); (case tE_NotDiagram => kit_is); (case t_NotDiagram_NotWorld => kit_is); (case t_NotDiagram_NotFamily => kit_is); (case t_NotDiagram_NotDiagram => kit_is); (case t_NotDiagram_NotNumber => kit_is); (case t_NotDiagram_BadNumber => kit_is); (case t_NotDiagram_TooLarge => kit_is)
    (case hg_BadNumber => k_is); (case hk_BadNumber => k_is); (case hd_BadNumber => k_is); (case ha_BadNumber => k_is); (case hm_BadNumber => k_is); (case sE_BadNumber => k_is); (case tE_BadNumber => kit_is); (case t_BadNumber_NotWorld => kit_is)
    (case t_BadNumber_NotFamily => kit_is); (case t_BadNumber_NotDiagram => kit_is); (case t_BadNumber_NotNumber => kit_is); (case t_BadNumber_BadNumber => kit_is); (case t_BadNumber_TooLarge => kit_is); (case hg_TooLarge => k_is); (case hk_TooLarge => k_is); (case hd_TooLarge => k_is)
    (case ha_TooLarge => k_is); (case hm_TooLarge => k_is); (case sE_TooLarge => k_is); (case tE_TooLarge => kit_is); (case t_TooLarge_NotWorld => kit_is); (case t_TooLarge_NotFamily => kit_is); (case t_TooLarge_NotDiagram => kit_is); (case t_TooLarge_NotNumber => kit_is)
    (case t_TooLarge_BadNumber => kit_is); (case t_TooLarge_TooLarge => kit_is)
