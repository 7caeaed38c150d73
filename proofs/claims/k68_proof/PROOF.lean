import PyProof.Rows.All
import Wide.All
import OpenK.AllK
import Wide.FinOn
import PyProof.EqAt
import PyProof.EqKinds
import PyProof.TupleCall
import HandS.ForExc
import HandS.Comp
import HandS.Iter
import HandS.Gcd
import HandS.Wide
import HandS.Evl
import HandS.Defaults
import HandS.ExcIs
import HandS.TupAny
import HandS.TupMul
import HandS.Walk
import HandS.Rev
import HandS.TupAny
import HandS.TupMul
import HandS.Style
import HandS.Deep
import HandS.Dict
import HandS.ForMost
import HandS.Conv
import HandS.Sort
import HandS.SortInts
import HandS.NoneIn
import KE.DatumOrd
import HandS.IsInst
import HandS.SetFor
import HandS.Flow
import HandS.Strs
import PyProof.ReprRoads
import PyProof.ReprLen
import PyProof.CallFns
import PyProof.Rows.RegStrFacts
import HandS.List
import KE.LtData
import KE.KDictList
import KE.GoesMore
import KE.DataMinMax
import HandS.CallLocal
import KE.KMathGC
import HandS.HotCalls
import HandS.ExcCtx
import HandS.Words
import PyProof.Seq
import HandS.ExcField
import HandS.SortRule
import KE.SortData
import PyProof.P3Eq
import PySem.Challenge.RW_threadworth_k68_arrangements_signs_and_f
set_option Elab.async false
set_option linter.all false
set_option maxRecDepth 100000
set_option maxHeartbeats 4000000
namespace T
open PySem PySem.Spec PyProof.Rows L2
/-! ### the mathematics of worlds and numbers -/
def primes : List Int := [2, 3, 5, 7, 11, 13, 17, 19, 23, 29, 31]
def isW (p d : Int) : Bool := if p = 0 then (if -20 ≤ d then decide (d ≤ 20) else false) else (if inV (.int p) (primes.map V.int) = true then (if 0 ≤ d then decide (d < p) else false) else false)
theorem inV_ints {p : Int} : ∀ {l : List Int}, inV (.int p) (l.map V.int) = true → p ∈ l
  | [], h => by cases h
  | x :: l, h => by
    have h1 : ((eqV (.int x) (.int p)) || inV (.int p) (l.map V.int)) = true := h
    rcases (Bool.or_eq_true _ _).mp h1 with h | h
    · have : x = p := of_decide_eq_true (show decide (x = p) = true by simpa [eqV] using h)
      rw [this]
      exact List.mem_cons_self
    · exact List.mem_cons_of_mem _ (inV_ints h)
theorem isW_prime {p d : Int} (h : isW p d = true) (hp : p ≠ 0) : p ∈ primes ∧ 0 ≤ d ∧ d < p := by
  unfold isW at h
  rw [if_neg hp] at h
  by_cases e : inV (.int p) (primes.map V.int) = true
  · rw [if_pos e] at h
    by_cases e2 : 0 ≤ d
    · rw [if_pos e2] at h
      exact ⟨inV_ints e, e2, of_decide_eq_true h⟩
    · rw [if_neg e2] at h
      cases h
  · rw [if_neg e] at h
    cases h
theorem prime_pos {p : Int} (h : p ∈ primes) : 2 ≤ p ∧ p ≤ 31 := by
  simp only [primes, List.mem_cons, List.not_mem_nil, or_false] at h
  omega
theorem inv_exN : ∀ p ∈ [2, 3, 5, 7, 11, 13, 17, 19, 23, 29, 31], ∀ r, r < p → r ≠ 0 → ∃ k, k < p ∧ (k * r) % p = 1 := by decide +kernel
theorem inv_ex {p : Int} (hp : p ∈ primes) {r : Int} (h0 : 0 ≤ r) (h1 : r < p) (hr : r ≠ 0) : ∃ k : Int, 1 ≤ k ∧ k < p ∧ k * r % p = 1 := by
  obtain ⟨n, rfl⟩ := Int.eq_ofNat_of_zero_le (show 0 ≤ p by have := prime_pos hp; omega)
  obtain ⟨m, rfl⟩ := Int.eq_ofNat_of_zero_le h0
  have hn : n ∈ [2, 3, 5, 7, 11, 13, 17, 19, 23, 29, 31] := by
    simp only [primes, List.mem_cons, List.not_mem_nil, or_false] at hp ⊢
    omega
  obtain ⟨k, hk, e⟩ := inv_exN n hn m (by omega) (by omega)
  refine ⟨(k : Int), ?_, by omega, ?_⟩
  · rcases Nat.eq_zero_or_pos k with z | z
    · subst z
      rw [Nat.zero_mul, Nat.zero_mod] at e
      cases e
    · omega
  · have : ((k * m % n : Nat) : Int) = ((1 : Nat) : Int) := by rw [e]
    rw [← Int.natCast_mul, ← Int.natCast_emod, e]
    rfl
/-- lowest terms -/
def gI (a b : Int) : Int := ((Nat.gcd a.natAbs b.natAbs : Nat) : Int)
def low (a b : Int) : Int × Int := if b < 0 then ((-a) / gI a b, (-b) / gI a b) else (a / gI a b, b / gI a b)
theorem gI_pos {a b : Int} (hb : b ≠ 0) : 0 < gI a b := by
  have : 0 < Nat.gcd a.natAbs b.natAbs := Nat.gcd_pos_of_pos_right _ (by omega)
  unfold gI
  omega
theorem gI_le {a b : Int} (hb : b ≠ 0) : gI a b ≤ b.natAbs := by
  have := Nat.gcd_le_right (m := a.natAbs) (n := b.natAbs) (by omega)
  unfold gI
  omega
theorem fdiv_negg (a g : Int) (hg : 0 ≤ g) : a.fdiv (-g) = (-a) / g := by
  rw [← Int.fdiv_eq_ediv_of_nonneg _ hg, ← Int.neg_fdiv_neg (-a) g, Int.neg_neg]
/-- the number a / b -/
def bad (p b : Int) : Prop := b = 0 ∨ (0 < p ∧ b % p = 0)
def IsNum (p a b x y : Int) : Prop := (0 < p ∧ y = 1 ∧ 0 ≤ x ∧ x < p ∧ (x * b - a) % p = 0) ∨ (¬ 0 < p ∧ (x, y) = low a b)
theorem inv_solves {p a b k : Int} (hp : 0 < p) (e : k * (b % p) % p = 1) (h1 : 1 < p) : ((a * k % p) * b - a) % p = 0 := by
  have e1 : (k * b) % p = 1 := by
    rw [Int.mul_emod, Int.emod_emod_of_dvd _ (Int.dvd_refl p), ← Int.mul_emod] at e
    exact e
  have d1 : p ∣ k * b - 1 := by
    apply Int.dvd_of_emod_eq_zero
    rw [Int.sub_emod, e1, Int.emod_eq_of_lt (by omega) h1]
    simp
  have d2 : p ∣ a * k - a * k % p := Int.dvd_self_sub_emod
  apply Int.emod_eq_zero_of_dvd
  have : (a * k % p) * b - a = a * (k * b - 1) - (a * k - a * k % p) * b := by
    rw [Int.mul_sub, Int.sub_mul, Int.mul_assoc]
    omega
  rw [this]
  exact Int.dvd_sub (Int.dvd_mul_of_dvd_right d1) (Int.dvd_mul_of_dvd_left d2)
theorem num_unique {p a b x y x' y' : Int} (hp : p = 0 ∨ p ∈ primes) (hb : ¬ bad p b) (h : IsNum p a b x y) (h' : IsNum p a b x' y') : x = x' ∧ y = y' := by
  rcases h with ⟨h0, e1, l1, u1, m1⟩ | ⟨h0, e1⟩
  · rcases h' with ⟨_, e2, l2, u2, m2⟩ | ⟨h0', _⟩
    · refine ⟨?_, e1.trans e2.symm⟩
      rcases hp with rfl | hp
      · omega
      · have hp2 := prime_pos hp
        have hbp : b % p ≠ 0 := fun z => hb (.inr ⟨h0, z⟩)
        obtain ⟨k, k1, k2, ek⟩ := inv_ex hp (Int.emod_nonneg b (by omega)) (Int.emod_lt_of_pos b h0) hbp
        have e1 : (k * b) % p = 1 := by
          rw [Int.mul_emod, Int.emod_emod_of_dvd _ (Int.dvd_refl p), ← Int.mul_emod] at ek
          exact ek
        have d1 : p ∣ k * b - 1 := by
          apply Int.dvd_of_emod_eq_zero
          rw [Int.sub_emod, e1, Int.emod_eq_of_lt (show (0:Int) ≤ 1 by omega) (show (1:Int) < p by omega)]
          simp
        have d2 : p ∣ (x * b - a) - (x' * b - a) := Int.dvd_sub (Int.dvd_of_emod_eq_zero m1) (Int.dvd_of_emod_eq_zero m2)
        have d3 : p ∣ x - x' := by
          have e : x - x' = k * ((x * b - a) - (x' * b - a)) - (x - x') * (k * b - 1) := by
            have e3 : (x * b - a) - (x' * b - a) = (x - x') * b := by
              rw [Int.sub_mul]
              omega
            rw [e3, Int.mul_sub, Int.mul_one, ← Int.mul_assoc, Int.mul_comm k (x - x'), Int.mul_assoc]
            omega
          rw [e]
          exact Int.dvd_sub (Int.dvd_mul_of_dvd_right d2) (Int.dvd_mul_of_dvd_right d1)
        obtain ⟨c, ec⟩ := d3
        have hc : c = 0 := by
          rcases Int.lt_trichotomy c 0 with z | z | z
          · have : p * c ≤ p * (-1) := Int.mul_le_mul_of_nonneg_left (by omega) (by omega)
            omega
          · exact z
          · have : p * 1 ≤ p * c := Int.mul_le_mul_of_nonneg_left (by omega) (by omega)
            omega
        rw [hc, Int.mul_zero] at ec
        omega
    · exact absurd h0 h0'
  · rcases h' with ⟨h0', _⟩ | ⟨_, e2⟩
    · exact absurd h0' h0
    · have := e1.trans e2.symm
      exact ⟨congrArg Prod.fst this, congrArg Prod.snd this⟩
end T

/-! ### defs that are called where nothing is being shown (no repr is under way): what the law's own def may know -/
namespace L2
open PySem PySem.Spec PyProof.Rows
structure FnG (P : Program) (w : World) (K : PySem.W.Frag) (mg : Str → Option Value) (base : Heap) (k : Nat) (f : Addr) (fd : FuncData) (ps : List Str) (sp : Sp) : Prop where
  len : ∀ vs H Q E, sp vs H Q E → vs.length = ps.length
  run : ∀ (A : Around) (outer : List Env) (s : Shared) (H : Hp) (args : Args) (us : List Value) (vs : List V) (Q : VK) (E : XK), A.guards = some [] → Room k A → Env0 P w K mg base A outer s H →
    BindsTo s fd args (ps.zip us) → Vals vs us → sp vs H Q E → codeAny (model P w) A (.call (.ref f) args) (CR CX0 outer P w H s Q E) s
theorem CE_of {P : Program} {w : World} {K : PySem.W.Frag} {mg : Str → Option Value} {base : Heap} {N : List Str} {qual : Str} {scope : Scope} {f : Addr} {cdv : Value} {A : Around} {outer : List Env} {s s' : Shared} {H H' : Hp} {E : XK} {Q : VK} {σ' : St} {v : V} {u : Value}
    (J : Inv (cxOf CX0 P w K mg base N qual scope f cdv A outer s H E) [] σ' H' s') (rv : RelV v u) (q : Q v H') : CE outer P w H s Q u s' := ⟨v, H', J.os, J.bare, J.base, J.hok, rv, q⟩
theorem Fun.okG {P : Program} {w : World} {K : PySem.W.Frag} {mg : Str → Option Value} {base : Heap} {x qual : Str} {st : Stmt} {f : Addr} {fd : FuncData} {N ps : List Str} {k : Nat} {sp : Sp} (F : Fun K x qual st f fd) (S : FnScope N ps (defScope st))
    (len : ∀ vs H Q E, sp vs H Q E → vs.length = ps.length)
    (hbody : ∀ (cdv : Value) (A : Around) (outer : List Env) (s : Shared) (H : Hp) (vs : List V) (Q : VK) (E : XK), (A.deeper (envOfC qual (defScope st) s.heap.objs.size f cdv)).guards = some [] →
      Room k (A.deeper (envOfC qual (defScope st) s.heap.objs.size f cdv)) → sp vs H Q E →
      ∃ t, PSs (cxOf CX0 P w K mg base N qual (defScope st) f cdv A outer s H E).nox (defBody st) t ∧ t { nx := fun _ H' => Q .non H', rt := Q } (start N vs) H) : FnG P w K mg base (k + 1) f fd ps sp := by
  obtain ⟨oc, od, kV, doc, pm, an, cdv, ct, osl, rfl, lk, hcd⟩ := F.ex
  refine ⟨len, fun A outer s H args us vs Q E hgu hr e0 hb r hsp => ?_⟩
  have keep := fun b o (e : base.get? b = some o) => (e0.bs b o e).1
  have inK : K.In s.heap := e0.mod.kin.keeps keep
  refine codeAny_call_function hr.depth (inK _ _ lk) rfl S.co S.gen rfl (PySem.W.codeRec_of inK hcd) (hb _ _ _ _ ?_)
  refine wpAny_newFunctionEnv_cells S.kind (fun ⟨n, v⟩ hy => ?_) fun env he s1 xx => ?_
  · exact (S.par n (List.of_mem_zip hy).1).elim .inl fun q => .inr ⟨q, PySem.W.cellsFrom_some _ _ _ (.inl q)⟩
  · subst he
    refine ⟨(e0.mod.nolimit.keeps keep).keeps xx.toInCall.keep, codeAny_func ?_⟩
    obtain ⟨t, ht, hq⟩ := hbody cdv A outer s H vs Q E hgu (hr.deeper _) hsp
    have I := inv_start (CX := CX0) (E := E) S hr.hd e0 (len _ _ _ _ hsp) r xx
    refine wpAny_mono (ht.nox.run [] s1 _ H _ I hq) (fun fl s' hs => ?_) fun e s' hs => hs
    rcases fl with _ | _ | _ | u
    · obtain ⟨σ', H', J, q⟩ := hs
      exact CE_of (v := V.non) (u := Value.none) J rfl q
    · exact hs.elim fun _ z => z.elim fun _ z => z.2.elim
    · exact hs.elim fun _ z => z.elim fun _ z => z.2.elim
    · obtain ⟨v, σ', H', J, rv, q⟩ := hs
      exact CE_of J rv q
end L2

namespace L2
open PySem PySem.Spec PyProof.Rows
/-- the law's def, called by the claim's caller: nothing is being shown there -/
theorem goes_at {P : Program} {w : World} {K : PySem.W.Frag} {mg mb : Str → Option Value} {k : Nat} {fa a : Addr} {fd : FuncData} {x : Str} {sp : Sp} {t : Shared} {vs : List Value} {xs : List V} {H : Hp}
    (KX : K.In t.heap) (hns : t.heap.Ns mainGlobals mg) (hb : t.heap.Ns builtinsNs mb) (hbb : ∀ y : Str, y ≠ "__name__" → mb y = bootBuiltins y) (hlim : t.heap.NoLimit) (hg : t.gens = #[])
    (ha : t.heap.get? a = some { cls := .type "list", data := .seq vs.toArray }) (hr : Room k callerA)
    (F : ∀ base : Heap, K.In base → base.Ns mainGlobals mg → FnG P w K mg base k fa fd [x] sp) (hbind : ∀ (s : Shared) (u : Value), BindsTo s fd ⟨[u], []⟩ [(x, u)])
    (hO : Only H) (hsp : sp [.ref a] H (fun v _ => v = .bl true) fun _ _ _ => False) (hok : HOk P w H t.heap) (hA : ∀ b, H b ≠ none → b = a) (hK : H a ≠ none → K.lookup a = none) :
    codeAny (model P w) callerA (.call (.ref fa) ⟨[.ref a], []⟩) (fun r s' => r = .ok (.ret (.bool true)) ∧ OldK t.heap s'.heap ∧ s'.os = t.os ∧ AllBare s'.gens) t := by
  have free : ∀ {b : Addr}, (H b ≠ none → False) → H b = none := fun {b} z => by
    rcases e : H b with _ | u
    · rfl
    · exact (z (by rw [e]; exact fun q => nomatch q)).elim
  have ns : ∀ {b : Addr} {m : Str → Option Value}, t.heap.Ns b m → (hidT t.heap H).Ns b m := fun {b m} z => by
    obtain ⟨o, es, ep, e, d, r⟩ := z
    refine ⟨o, es, ep, hidT_get e (free fun z => ?_), d, r⟩
    rw [hA b z, ha] at e
    cases e
    cases d
  have inB : K.In (hidT t.heap H) := fun b o e => hidT_get (KX b o e) (free fun z => by
    have eb := hA b z
    rw [eb] at z e
    rw [hK z] at e
    cases e)
  obtain ⟨mc, l1, l2⟩ := hlim
  have env : Env0 P w K mg (hidT t.heap H) callerA [] t H := ⟨rfl, ⟨inB, ns hns, ⟨mb, ns hb, hbb⟩, ⟨mc, ns l1, l2⟩⟩, fun b o e => of_hidT e, Nat.le_of_eq (hidT_size _ _), trivial, fun b hb => (nomatch hb), hok, .of_eq hg⟩
  refine codeAny_mono ((F _ inB (ns hns)).run callerA [] t H _ [.ref a] [.ref a] _ _ rfl hr env (hbind t (.ref a)) (.cons rfl .nil) hsp) fun r s' h => ?_
  rcases r with e | fl
  · exact (show False from h).elim
  · rcases fl with _ | _ | _ | u
    · exact (show False from h).elim
    · exact (show False from h).elim
    · exact (show False from h).elim
    · obtain ⟨v, H', os, bare, un, hok', rv, q⟩ := h
      obtain rfl : v = .bl true := q
      obtain rfl : u = Value.bool true := rv
      refine ⟨rfl, OldK.of_keep fun b o e => ?_, os, bare⟩
      rcases hO b with z | ⟨ob, ys, z⟩
      · exact un.keep b o e z (fun z => nomatch z) (fun z => nomatch z)
      · have e1 := (hok b _ z).1
        rw [e] at e1
        rw [Option.some.inj e1]
        exact (hok' b _ (un.frzs b ob _ z)).1
theorem walk_ofG {l : PySem.W.OpenLaw} {n k : Nat} {q : Program} {loose : List Str} {XP : (Str → Option Value) → Heap → Prop} {YP : World → Heap → Prop} {d : DefRec} {K : Params → PySem.W.Frag} {sp : World → Sp} {x : Str}
    (hn : l.most = some n) (hn2 : n ≤ sizeLine) (hdf : d.params.defaults = []) (hr : Room k callerA) (hY : ∀ (w : World) (h : Heap), YP w h → (K w.params).In h)
    (F : ∀ (w : World) (mg : Str → Option Value) (fa : Addr) (h : Heap), (K w.params).In h → h.Ns mainGlobals mg → mg d.name = some (.ref fa) →
      ∃ fd : FuncData, (∀ (s : Shared) (u : Value), BindsTo s fd ⟨[u], []⟩ [(x, u)]) ∧ ∀ base : Heap, (K w.params).In base → base.Ns mainGlobals mg → FnG l.prog w (K w.params) mg base k fa fd [x] (sp w))
    (hsp : ∀ (w : World) (H : Hp) (a : Addr) (ns : List Int), ns.length ≤ n → SqL (K w.params) H a (ns.map V.int) → sp w [.ref a] H (fun v _ => v = .bl true) fun _ _ _ => False) :
    PySem.W.WalkO q loose XP YP l.row.toRowW d [] (fun f vs => PySem.call f vs) := by
  refine Att.attach_call hn hdf fun w s₀ t mg mb fa o pm cd doc a vs ns G Y ho hd hcd hmg hobj hints hlen hg => ?_
  have KX := hY w _ Y
  obtain ⟨fd, hb, hF⟩ := F w mg fa _ KX G.T.g hmg
  have rv : Vals (ns.map V.int) vs := vals_ints hints
  have lv := hints.length
  rcases hk : (K w.params).lookup a with _ | oa
  · refine goes_at (xs := ns.map V.int) (H := fun b => if b = a then some (.frz { cls := .type "list", data := .seq vs.toArray } (.lst (ns.map V.int))) else none) KX G.T.g G.T.b G.T.builtins G.T.nolimit hg hobj hr hF hb
      (fun b => ?_) (hsp w _ a ns hlen (.inl (.inr ⟨_, if_pos rfl⟩))) (fun b u z => ?_) (fun b z => Decidable.byContradiction fun c => z (if_neg c)) fun _ => hk
    · by_cases c : b = a
      · exact .inr ⟨_, _, if_pos c⟩
      · exact .inl (if_neg c)
    · by_cases c : b = a
      · have z' := (if_pos c).symm.trans z
        cases z'
        subst c
        exact ⟨hobj, by rw [List.length_map]; omega, vs, _, rv, hobj⟩
      · have z' := (if_neg c).symm.trans z
        cases z'
  · have e := (KX a oa hk).symm.trans hobj
    cases e
    exact goes_at (xs := ns.map V.int) (H := fun _ => none) KX G.T.g G.T.b G.T.builtins G.T.nolimit hg hobj hr hF hb (fun _ => .inl rfl)
      (hsp w _ a ns hlen (.inr ⟨_, vs.toArray, _, hk, rfl, rfl, rfl, by rw [List.size_toArray]; omega, rv⟩)) (fun b u z => nomatch z) (fun b z => (z rfl).elim) fun z => (z rfl).elim
end L2

namespace L2
open PySem PySem.Spec PyProof.Rows
/-! ### repr(data), where nothing is being shown -/
mutual
def wt : PyData → Nat
  | .none => 4
  | .bool _ => 5
  | .int _ => 1921
  | .str x => (reprText x).length
  | .list xs => wtAll xs + 3
  | .tuple xs => wtAll xs + 3
  | .dict _ => 0
def wtAll : List PyData → Nat
  | [] => 0
  | x :: xs => wt x + 2 + wtAll xs
end
mutual
theorem shown_wt : ∀ d : PyData, d.showable = true → d.hasDict = false → d.shown.length ≤ wt d
  | .none, _, _ => by simp only [PyData.shown, wt]; decide +kernel
  | .bool b, _, _ => by cases b <;> simp only [PyData.shown, wt] <;> decide +kernel
  | .int i, h, _ => by
    simp only [PyData.shown, wt]
    exact int_text_len_1921 (by simpa [PyData.showable] using h)
  | .str x, _, _ => by simp only [PyData.shown, wt]; exact Nat.le_refl _
  | .list xs, h, h2 => by
    simp only [PyData.showable] at h
    simp only [PyData.hasDict] at h2
    simp only [PyData.shown, wt]
    have h3 := shown_wtAll xs h h2
    have h4 := listText_len_le (PyData.shownAll xs)
    omega
  | .tuple xs, h, h2 => by
    simp only [PyData.showable] at h
    simp only [PyData.hasDict] at h2
    simp only [PyData.shown, wt]
    have h3 := shown_wtAll xs h h2
    have h4 := tupleText_len_le (PyData.shownAll xs)
    omega
  | .dict _, _, h2 => by simp [PyData.hasDict] at h2
theorem shown_wtAll : ∀ xs : List PyData, PyData.showableAll xs = true → PyData.hasDictAll xs = false → ((PyData.shownAll xs).map (·.length)).sum + 2 * (PyData.shownAll xs).length ≤ wtAll xs
  | [], _, _ => by simp [PyData.shownAll, wtAll]
  | x :: xs, h, h2 => by
    simp only [PyData.showableAll, Bool.and_eq_true] at h
    simp only [PyData.hasDictAll, Bool.or_eq_false_iff] at h2
    have h3 := shown_wt x h.1 h2.1
    have h4 := shown_wtAll xs h.2 h2.2
    simp only [PyData.shownAll, wtAll, List.map_cons, List.sum_cons, List.length_cons]
    omega
end
def rReprD (K : PySem.W.Frag) : List V → Hp → VK → Prop := fun xs H Q => ∃ x d, xs = [x] ∧ Dp K H x d ∧ SeqAt.shaped d = true ∧ d.showable = true ∧ wt d ≤ sizeLine ∧ Q (.str d.shown) H
theorem cr_reprD {X : Cx} (hg : X.A.guards = some []) (hu : X.A.units + 65 < cLine) : CallR X (.builtin "repr") (rReprD X.K) := by
  intro pins s σ H vs us Q I r h
  obtain ⟨x, d, rfl, hd, hs, hw, hz, q⟩ := h
  cases r with
  | cons rv rn =>
    rename_i v us'
    cases rn
    have hs' : (d.canLay0 && decide (d.depth ≤ 64)) = true := hs
    rw [Bool.and_eq_true] at hs'
    have nd := PyData.hasDict_of_canLay d hs'.1
    have dep : d.depth ≤ 64 := of_decide_eq_true hs'.2
    have sz := Nat.le_trans (shown_wt d hw nd) hz
    obtain ⟨as, rd⟩ := Dp.reads I d x v hd rv
    have ref : ∀ a : Addr, v = .ref a → wpAny (model X.prog X.w) X.A (call (.builtin "repr") [v]) (EP X pins σ Q) X.xe s := fun a e => by
      subst e
      exact repr_of_reads' rd hw (PyData.noDict_hsm nd) hg (by omega) (fun _ _ e => e) (fun h' u tk hk => ⟨.str _, H, I.kept (t' := tk) hk, ⟨u, rfl⟩, q⟩) sz
    cases hd with
    | non =>
      cases rv
      exact PySem.P.repr_of_none ⟨.str _, H, I.tok _, ⟨_, rfl⟩, by simpa only [PyData.shown] using q⟩
    | bl b =>
      cases rv
      exact PySem.P.repr_of_bool ⟨.str _, H, I.tok _, ⟨_, rfl⟩, by simpa only [PyData.shown] using q⟩
    | int i =>
      obtain ⟨t, rfl⟩ := rv
      exact PySem.P.repr_of_int (by simpa [PyData.showable] using hw) ⟨.str _, H, I.tok _, ⟨_, rfl⟩, by simpa only [PyData.shown] using q⟩
    | str y =>
      obtain ⟨t, rfl⟩ := rv
      exact PySem.P.repr_of_str ⟨.str _, H, I.tok _, ⟨_, rfl⟩, by simpa only [PyData.shown] using q⟩ (by simpa only [PyData.shown] using sz)
    | lst _ _ => exact ref _ rv
    | tup _ _ => exact ref _ rv
end L2

namespace T
/-! ### fractions -/
theorem low_pos {a : Int} {n : Nat} (hn : n ≠ 0) : low a (n : Int) = ((Rat.divInt a (n : Int)).num, ((Rat.divInt a (n : Int)).den : Int)) := by
  have e : Rat.divInt a (n : Int) = Rat.normalize a n hn := by
    show mkRat a n = _
    rw [Rat.mkRat_def, dif_neg hn]
  rw [e, Rat.normalize_eq]
  unfold low gI
  rw [if_neg (by omega), Int.natAbs_natCast]
  show (_, _) = (_, (((n / a.natAbs.gcd n : Nat)) : Int))
  rw [Int.natCast_ediv]
theorem low_rat {a b : Int} (hb : b ≠ 0) : low a b = ((Rat.divInt a b).num, ((Rat.divInt a b).den : Int)) := by
  by_cases c : 0 < b
  · obtain ⟨n, rfl⟩ := Int.eq_ofNat_of_zero_le (Int.le_of_lt c)
    exact low_pos (by omega)
  · obtain ⟨n, hn⟩ := Int.eq_ofNat_of_zero_le (show 0 ≤ -b by omega)
    have e : Rat.divInt a b = Rat.divInt (-a) (n : Int) := (Rat.divInt_eq_divInt_iff hb (by omega)).mpr (by rw [← hn, Int.mul_neg, Int.neg_mul])
    rw [e, ← low_pos (by omega), ← hn]
    unfold low gI
    rw [if_pos (by omega), if_neg (by omega), Int.natAbs_neg, Int.natAbs_neg]
theorem low_congr {a b a' b' : Int} (hb : b ≠ 0) (hb' : b' ≠ 0) (h : a * b' = a' * b) : low a b = low a' b' := by
  rw [low_rat hb, low_rat hb', (Rat.divInt_eq_divInt_iff hb hb').mpr h]
theorem low_q {a b u v : Int} (hb : b ≠ 0) (h : (u, v) = low a b) : Rat.divInt u v = Rat.divInt a b ∧ 0 < v := by
  rw [low_rat hb] at h
  have e1 : u = (Rat.divInt a b).num := congrArg Prod.fst h
  have e2 : v = ((Rat.divInt a b).den : Int) := congrArg Prod.snd h
  rw [e1, e2]
  exact ⟨Rat.num_divInt_den _, by have := (Rat.divInt a b).den_pos; omega⟩
theorem low_cross {a b u v : Int} (hb : b ≠ 0) (h : (u, v) = low a b) : u * b = a * v ∧ 0 < v := by
  obtain ⟨h1, h2⟩ := low_q hb h
  exact ⟨(Rat.divInt_eq_divInt_iff (by omega) hb).mp h1, h2⟩
/-- a number times a number: the parts may be reduced ahead or behind -/
theorem num_step {p A B u v a b u' v' : Int} (hp : p = 0 ∨ p ∈ primes) (hB : p = 0 → B ≠ 0) (hb0 : p = 0 → b ≠ 0) (hb1 : p ≠ 0 → b = 1) (hB1 : p ≠ 0 → B = 1) (h : IsNum p A B u v) (h' : IsNum p (u * a) (v * b) u' v') : IsNum p (A * a) (B * b) u' v' := by
  by_cases c : p = 0
  · obtain ⟨_, e⟩ := h.resolve_left (fun z => by omega)
    obtain ⟨_, e'⟩ := h'.resolve_left (fun z => by omega)
    obtain ⟨x1, x2⟩ := low_cross (hB c) e
    refine .inr ⟨by omega, e'.trans (low_congr (Int.mul_ne_zero (by omega) (hb0 c)) (Int.mul_ne_zero (hB c) (hb0 c)) ?_)⟩
    calc u * a * (B * b) = u * B * (a * b) := by rw [Int.mul_assoc, Int.mul_assoc]; congr 1; rw [← Int.mul_assoc, ← Int.mul_assoc, Int.mul_comm a B]
      _ = A * v * (a * b) := by rw [x1]
      _ = A * a * (v * b) := by rw [Int.mul_assoc, Int.mul_assoc]; congr 1; rw [← Int.mul_assoc, ← Int.mul_assoc, Int.mul_comm v a]
  · have hp2 := prime_pos (hp.resolve_left c)
    obtain ⟨h0, e1, l1, u1, m1⟩ := h.resolve_right (fun z => by omega)
    obtain ⟨_, e2, l2, u2, m2⟩ := h'.resolve_right (fun z => by omega)
    refine .inl ⟨h0, e2, l2, u2, ?_⟩
    rw [hB1 c, hb1 c]
    rw [hB1 c, Int.mul_one] at m1
    rw [hb1 c, e1] at m2
    have d1 := Int.dvd_of_emod_eq_zero m1
    have d2 := Int.dvd_of_emod_eq_zero m2
    apply Int.emod_eq_zero_of_dvd
    have e : u' * (1 * 1) - A * a = (u' * (1 * 1) - u * a) + (u - A) * a := by
      rw [Int.sub_mul]
      omega
    rw [e]
    exact Int.dvd_add d2 (Int.dvd_mul_of_dvd_left d1)
theorem low_small {a b u v : Int} (h : (u, v) = low a b) : u.natAbs ≤ a.natAbs ∧ v.natAbs ≤ b.natAbs := by
  have e1 := congrArg Prod.fst h
  have e2 := congrArg Prod.snd h
  unfold low at e1 e2
  by_cases c : b < 0
  · rw [if_pos c] at e1 e2
    have f1 : u = (-a) / gI a b := e1
    have f2 : v = (-b) / gI a b := e2
    have g1 := Int.natAbs_ediv_le_natAbs (-a) (gI a b)
    have g2 := Int.natAbs_ediv_le_natAbs (-b) (gI a b)
    rw [f1, f2]
    omega
  · rw [if_neg c] at e1 e2
    have f1 : u = a / gI a b := e1
    have f2 : v = b / gI a b := e2
    have g1 := Int.natAbs_ediv_le_natAbs a (gI a b)
    have g2 := Int.natAbs_ediv_le_natAbs b (gI a b)
    rw [f1, f2]
    omega
theorem num_small {p a b u v : Int} (hp : p = 0 ∨ p ∈ primes) (h : IsNum p a b u v) (ha : a.natAbs < 2 ^ 199) (hb : b.natAbs < 2 ^ 199) : u.natAbs < 2 ^ 200 ∧ v.natAbs < 2 ^ 200 := by
  rcases h with ⟨h0, rfl, h1, h2, _⟩ | ⟨_, h⟩
  · have := prime_pos (hp.resolve_left (by omega))
    omega
  · have := low_small h
    omega
theorem isW_cases {p d : Int} (hw : isW p d = true) : (p = 0 ∨ p ∈ primes) ∧ d.natAbs ≤ 31 := by
  by_cases c : p = 0
  · refine ⟨.inl c, ?_⟩
    unfold isW at hw
    rw [if_pos c] at hw
    by_cases h1 : -20 ≤ d
    · rw [if_pos h1] at hw
      have := of_decide_eq_true hw
      omega
    · rw [if_neg h1] at hw
      cases hw
  · obtain ⟨h1, h2, h3⟩ := isW_prime hw c
    have := prime_pos h1
    exact ⟨.inr h1, by omega⟩
end T

namespace T
open PySem PySem.Spec PyProof.Rows L2
/-! ### lists of integers as polynomials -/
def co (l : List Int) (k : Nat) : Int := l.getD k 0
theorem co_ge {l : List Int} {k : Nat} (h : l.length ≤ k) : co l k = 0 := by
  unfold co
  rw [List.getD_eq_getElem?_getD, List.getElem?_eq_none h]
  rfl
theorem co_get {l : List Int} {k : Nat} (h : k < l.length) : l[k]? = some (co l k) := by
  unfold co
  rw [List.getD_eq_getElem?_getD, List.getElem?_eq_getElem h]
  rfl
theorem co_mem {l : List Int} {k : Nat} (h : k < l.length) : co l k ∈ l := by
  have e := co_get h
  exact List.mem_of_getElem? e
theorem at_co {l : List Int} {k : Nat} (h : k < l.length) : atI (l.map V.int) (k : Int) = some (.int (co l k)) := atI_nat (by rw [List.getElem?_map, co_get h]; rfl)
theorem at_end {l : List Int} (h : l ≠ []) : atI (l.map V.int) (-1) = some (.int (co l (l.length - 1))) := by
  have hl : 0 < l.length := List.length_pos_iff.mpr h
  have e : l.map V.int = (l.take (l.length - 1)).map V.int ++ [V.int (co l (l.length - 1))] := by
    have e1 : l = l.take (l.length - 1) ++ [co l (l.length - 1)] := by
      have := List.take_succ (l := l) (i := l.length - 1)
      rw [show l.length - 1 + 1 = l.length by omega, List.take_length, co_get (by omega)] at this
      exact this
    conv => lhs; rw [e1]
    rw [List.map_append]
    rfl
  rw [e]
  exact atI_last _ _
/-- no 0 at the end -/
def Pol (l : List Int) : Prop := l = [] ∨ co l (l.length - 1) ≠ 0
theorem pol_len {l m : List Int} (hm : Pol m) (h : ∀ k, co l k = co m k) : m.length ≤ l.length := by
  rcases hm with rfl | hm
  · exact Nat.zero_le _
  · rcases Nat.lt_or_ge l.length m.length with c | c
    · rw [← h, co_ge (by omega)] at hm
      exact absurd rfl hm
    · exact c
theorem pol_ext {l m : List Int} (hl : Pol l) (hm : Pol m) (h : ∀ k, co l k = co m k) : l = m := by
  have h1 := pol_len hm h
  have h2 := pol_len hl (fun k => (h k).symm)
  refine List.ext_getElem? fun k => ?_
  rcases Nat.lt_or_ge k l.length with c | c
  · rw [co_get c, co_get (by omega), h]
  · rw [List.getElem?_eq_none c, List.getElem?_eq_none (by omega)]
theorem co_take {l : List Int} {s k : Nat} (h : ∀ i, s ≤ i → co l i = 0) : co (l.take s) k = co l k := by
  rcases Nat.lt_or_ge k s with c | c
  · unfold co
    rw [List.getD_eq_getElem?_getD, List.getD_eq_getElem?_getD, List.getElem?_take_of_lt c]
  · rw [h k c, co_ge (by rw [List.length_take]; omega)]
theorem pol_take {l : List Int} {s : Nat} (hs : s ≤ l.length) (h : s = 0 ∨ co l (s - 1) ≠ 0) (hz : ∀ i, s ≤ i → co l i = 0) : Pol (l.take s) := by
  rcases h with rfl | h
  · exact .inl rfl
  · by_cases c : s = 0
    · rw [c]
      exact .inl rfl
    · refine .inr ?_
      rw [List.length_take, Nat.min_eq_left hs, co_take hz]
      exact h
theorem co_map {f : Int → Int} (h0 : f 0 = 0) (l : List Int) (k : Nat) : co (l.map f) k = f (co l k) := by
  rcases Nat.lt_or_ge k l.length with c | c
  · have := co_get c
    unfold co
    rw [List.getD_eq_getElem?_getD, List.getElem?_map, List.getD_eq_getElem?_getD, this]
    rfl
  · rw [co_ge (by rw [List.length_map]; omega), co_ge c, h0]
theorem co_set {l : List Int} {i : Nat} {v : Int} (k : Nat) (h : i < l.length) : co (l.set i v) k = if k = i then v else co l k := by
  unfold co
  rw [List.getD_eq_getElem?_getD, List.getElem?_set]
  by_cases c : i = k
  · rw [if_pos c, if_pos c.symm, if_pos (by omega)]
    rfl
  · rw [if_neg c, if_neg (fun z => c z.symm), List.getD_eq_getElem?_getD]
theorem co_zeros (n k : Nat) : co (List.replicate n 0) k = 0 := by
  unfold co
  rw [List.getD_eq_getElem?_getD, List.getElem?_replicate]
  split <;> rfl
theorem map_set (l : List Int) (i : Nat) (v : Int) : (l.map V.int).set i (V.int v) = (l.set i v).map V.int := List.map_set.symm
/-! the value -/
def ev (x : Int) : List Int → Int
  | [] => 0
  | a :: r => a + x * ev x r
theorem ev_append (x : Int) (l : List Int) (a : Int) : ev x (l ++ [a]) = ev x l + x ^ l.length * a := by
  induction l with
  | nil => show a + x * 0 = 0 + x ^ 0 * a; rw [Int.pow_zero]; grind
  | cons b r ih =>
    show b + x * ev x (r ++ [a]) = b + x * ev x r + x ^ (r.length + 1) * a
    rw [ih, Int.pow_succ]
    grind
theorem ev_take (x : Int) {l : List Int} {i : Nat} (h : i < l.length) : ev x (l.take (i + 1)) = ev x (l.take i) + co l i * x ^ i := by
  have e : l.take (i + 1) = l.take i ++ [co l i] := by rw [List.take_succ, co_get h]; rfl
  rw [e, ev_append, List.length_take, Nat.min_eq_left (by omega), Int.mul_comm]
theorem ev_drop (x : Int) {l : List Int} {i : Nat} (h : i < l.length) : ev x (l.drop i) = co l i + x * ev x (l.drop (i + 1)) := by
  rw [List.drop_eq_getElem_cons h]
  have := co_get h
  rw [List.getElem?_eq_getElem h] at this
  rw [Option.some.inj this]
  rfl
/-! the product: what is there behind i rows, and j entries of the next -/
def row (one other : List Int) (i k : Nat) : Int := if i ≤ k then co one i * co other (k - i) else 0
def conv (one other : List Int) : Nat → Nat → Int
  | 0, _ => 0
  | i + 1, k => conv one other i k + row one other i k
theorem conv_more (one other : List Int) (k : Nat) : ∀ i, one.length ≤ i → conv one other i k = conv one other one.length k
  | 0, h => by rw [show one.length = 0 by omega]
  | i + 1, h => by
    by_cases c : one.length = i + 1
    · rw [c]
    · show conv one other i k + row one other i k = _
      rw [conv_more one other k i (by omega)]
      unfold row
      rw [co_ge (l := one) (by omega)]
      split <;> simp
theorem conv_top (one other : List Int) {k : Nat} : ∀ i, i ≤ one.length → i + other.length ≤ k + 1 → conv one other i k = 0
  | 0, _, _ => rfl
  | i + 1, h, hk => by
    show conv one other i k + row one other i k = 0
    rw [conv_top one other i (by omega) (by omega)]
    unfold row
    rw [if_pos (by omega), co_ge (l := other) (by omega)]
    simp
theorem conv_zero (one : List Int) (k : Nat) : ∀ i, conv one [] i k = 0
  | 0 => rfl
  | i + 1 => by
    show conv one [] i k + row one [] i k = 0
    rw [conv_zero one k i]
    unfold row
    rw [show co [] (k - i) = 0 from co_ge (Nat.zero_le _)]
    split <;> simp
theorem rep0 : ∀ n : Nat, (List.replicate n [V.int 0]).flatten = (List.replicate n (0 : Int)).map V.int
  | 0 => rfl
  | n + 1 => by
    rw [List.replicate_succ, List.flatten_cons, rep0 n, List.replicate_succ, List.map_cons]
    rfl
theorem ixN_nat {n j : Nat} (h : j < n) : ixN n (j : Int) = some j := by
  unfold ixN
  rw [if_pos (by omega), if_pos (by omega)]
  rfl
end T

/-! ### tuple * n for n = 0 and n = 1 -/
namespace L2
open PySem PySem.Spec PyProof.Rows
theorem tuple_mulX (l : Addr) (items : Array Value) (n : Nat) (dd : Option Addr) (sl : Array (Option Value)) (x : Int) (u : Tok) (c0 : (decide (x < -(2 ^ 63)) || decide (x ≥ 2 ^ 63)) = false) (c1 : (items.isEmpty || x == 1) = true) :
    Meets (Builtin.«tuple.__mul__» ⟨[.ref l, .int x u], []⟩) (fun _ R s => s.heap.get? l = some { cls := .type "tuple", dict := dd, data := .seq items n, slots := sl } ∧ R (.ok (.ret (Value.ref l))) s) :=
  .of_wp fun prog w A R s h => by
    obtain ⟨hp, g, d, tk, os⟩ := s
    obtain ⟨hl, h⟩ := h
    have f1 := AutoSeq1.idx_int
    wp_walk using wpAny_loadPart' hl
    repeat (first
      | (refine wpAny_ite_false (decide_eq_false (by rw [c0]; exact Bool.false_ne_true)) ?_; wp_walk using wpAny_loadPart' hl)
      | (refine wpAny_ite_true (decide_eq_true c1) ?_; wp_walk using wpAny_loadPart' hl))
    exact ⟨_, rfl, h⟩
theorem tuple_mulZ (l : Addr) (items : Array Value) (n : Nat) (dd : Option Addr) (sl : Array (Option Value)) (x : Int) (u : Tok) (c0 : (decide (x < -(2 ^ 63)) || decide (x ≥ 2 ^ 63)) = false) (c1 : (items.isEmpty || x == 1) = false) (c2 : (decide (x ≤ 0) || items.isEmpty) = true) :
    Meets (Builtin.«tuple.__mul__» ⟨[.ref l, .int x u], []⟩) (fun _ R s => s.heap.get? l = some { cls := .type "tuple", dict := dd, data := .seq items n, slots := sl } ∧
      R (.ok (.ret (Value.ref s.heap.objs.size))) { s with heap := s.heap.push { cls := Value.type "tuple", data := Data.seq #[] }, toks := s.toks }) :=
  .of_wp fun prog w A R s h => by
    obtain ⟨hp, g, d, tk, os⟩ := s
    obtain ⟨hl, h⟩ := h
    have f1 := AutoSeq1.idx_int
    wp_walk using wpAny_loadPart' hl
    repeat (first
      | (refine wpAny_ite_false (decide_eq_false (by rw [c0]; exact Bool.false_ne_true)) ?_; wp_walk using wpAny_loadPart' hl)
      | (refine wpAny_ite_false (decide_eq_false (by rw [c1]; exact Bool.false_ne_true)) ?_; wp_walk using wpAny_loadPart' hl)
      | (refine wpAny_ite_true (decide_eq_true c2) ?_; wp_walk using wpAny_loadPart' hl))
    exact ⟨_, rfl, h⟩
def rRepA (K : PySem.W.Frag) : R2 := fun x y H Q => ∃ l k xs, x = .ref l ∧ y = .int k ∧ SqT K H l xs ∧ xs ≠ [] ∧ 0 ≤ k ∧ k ≤ 1000 ∧ xs.length ≤ 1000 ∧ (k = 1 → Q (.ref l) H) ∧ (k ≠ 1 → ∀ p, H p = none → Q (.ref p) (upd H p (.tup (List.replicate k.toNat xs).flatten)))
section
variable {X : Cx}
theorem op_repA : OpR X (binaryOp .Mult) (rRepA X.K) := by
  intro pins s σ H x y v u Q I rx ry h
  obtain ⟨l, k, xs, rfl, rfl, hT, hne, h1, h2, hz, q1, q⟩ := h
  by_cases big : 2 ≤ k
  · exact op_repT pins s σ H _ _ v u Q I rx ry ⟨l, k, xs, rfl, rfl, hT, hne, big, h2, hz, q (by omega)⟩
  cases rx
  obtain ⟨t, rfl⟩ := ry
  obtain ⟨its, r, ⟨⟨cls, dd, data, sl⟩, ho, hc, n, hd⟩, hs⟩ := I.tuple hT
  simp only at hc hd
  subst hc hd
  have hle : its.length = xs.length := r.length.symm
  have hn : its ≠ [] := fun e => hne (by
    rw [e] at hle
    exact List.eq_nil_of_length_eq_zero hle.symm)
  have hi : its.toArray.isEmpty = false := by
    cases its with
    | nil => exact absurd rfl hn
    | cons a b => rfl
  have c0 : (decide (k < -(2 ^ 63)) || decide (k ≥ 2 ^ 63)) = false := by
    rw [decide_eq_false (by omega), decide_eq_false (by omega)] <;> rfl
  by_cases one : k = 1
  · have c1 : (its.toArray.isEmpty || k == 1) = true := by
      rw [hi, Bool.false_or]
      exact beq_iff_eq.mpr one
    exact wpAny_binaryOp_repeat_ref (T := "tuple") (U := "int") (by decide) ⟨_, ho, rfl⟩ (fun s' => typeIs_int s' k t) noFill_tuple_mul F.fills_int_mul F.slot_int_rmul repeat_tuple F.slot_int_index.lookup
      (call_meets F.slot_int_rmul (typeIs_int s k t) F.entry_int_rmul (F.args_int_rmul_2 _ _) (int_rmul_tuple k t l its.toArray n dd sl)
        ⟨ho, rfl, ⟨_, ho, rfl⟩, call_meets F.slot_tuple_mul ⟨_, ho, rfl⟩ F.entry_tuple_mul (F.args_tuple_mul_2 _ _) (tuple_mulX l its.toArray n dd sl k t c0 c1) ⟨ho, ⟨.ref l, H, I, rfl, q1 one⟩⟩⟩)
  · have zero : k = 0 := by omega
    have c1 : (its.toArray.isEmpty || k == 1) = false := by
      rw [hi, Bool.false_or]
      exact beq_eq_false_iff_ne.mpr one
    have c2 : (decide (k ≤ 0) || its.toArray.isEmpty) = true := by
      rw [hi, Bool.or_false]
      exact decide_eq_true (by omega)
    refine wpAny_binaryOp_repeat_ref (T := "tuple") (U := "int") (by decide) ⟨_, ho, rfl⟩ (fun s' => typeIs_int s' k t) noFill_tuple_mul F.fills_int_mul F.slot_int_rmul repeat_tuple F.slot_int_index.lookup
      (call_meets F.slot_int_rmul (typeIs_int s k t) F.entry_int_rmul (F.args_int_rmul_2 _ _) (int_rmul_tuple k t l its.toArray n dd sl)
        ⟨ho, rfl, ⟨_, ho, rfl⟩, call_meets F.slot_tuple_mul ⟨_, ho, rfl⟩ F.entry_tuple_mul (F.args_tuple_mul_2 _ _) (tuple_mulZ l its.toArray n dd sl k t c0 c1 c2) ⟨ho, ?_⟩⟩)
    refine ⟨.ref s.heap.objs.size, _, I.laid (t' := s.toks) (o := .tup (List.replicate k.toNat xs).flatten) (fun b ob q => Heap.get?_push_of_some _ q) (Nat.le_refl _) ?_, rfl, q one _ (I.hok.fresh (Nat.le_refl _))⟩
    rw [zero]
    exact ⟨Nat.zero_le _, [], .nil, IsTup.new _ _⟩
end
end L2

/-! ### sorted(tuple of integers), x in tuple of tuples -/
namespace SrtO
open PySem PyProof.Rows Srt
section
variable {prog : Program} {w : World} {A : Around} {E : Value → Shared → Prop} {s : Shared}
theorem collect_tup {l : Addr} {vs : List Value} {Q : List Value → Shared → Prop} (hl : s.heap.IsTuple l vs.toArray)
    (h : Q vs { s with heap := (s.heap.push (seqObj "list" #[] 0)).update s.heap.objs.size (Obj.mapSeq (· ++ vs.toArray)) }) (hsz : vs.length ≤ sizeLine) :
    wpAny (model prog w) A (collect (.ref l)) Q E s := by
  obtain ⟨o, ho, hc, n, hd⟩ := id hl
  unfold collect
  refine wpAny_bind (wpAny_runValue (codeAny_builtin entry_proto_collect' ?_))
  show wpAny _ _ (do again (.builtin "list.__iadd__" ⟨[← newList [], .ref l], []⟩)) _ _ s
  refine wpAny_bind (wpAny_newList (wpAny_pure ⟨Code.quiet_builtin _ (by decide +kernel), codeAny_builtin entry_list_iadd' ?_⟩))
  show wpAny _ _ (Builtin.List.listExtendWith (.ref s.heap.objs.size) (.ref l) (.ref s.heap.objs.size)) _ _ { s with heap := s.heap.push (seqObj "list" #[] 0) }
  unfold Builtin.List.listExtendWith
  have ho' : (s.heap.push (seqObj "list" #[] 0)).get? l = some o := Heap.get?_push_of_some _ ho
  refine wpAny_bind (wpAny_typeOf (T := "tuple") ⟨o, ho', hc⟩ ?_)
  have ht : (Value.type "tuple" == Value.type "tuple") = true := by rfl
  rw [if_pos (by rw [ht]; simp)]
  refine wpAny_bind (listItems_at ho' hd ?_)
  refine wpAny_bind (listItems_at (xs := #[]) (n := 0) (Heap.get?_push_size _ rfl) rfl ?_)
  rw [if_neg (by simp)]
  refine wpAny_bind (listUpdate_at (xs := #[]) (n := 0) (Heap.get?_push_size _ rfl) rfl ?_ (Nat.zero_le _) (by show (#[] ++ vs.toArray).size ≤ sizeLine + 1; simp only [Array.size_append, List.size_toArray, List.length_nil]; omega))
  refine wpAny_pure ?_
  show wpAny (model prog w) A (do
      let o ← load s.heap.objs.size
      match o.data with
      | .seq xs _ => pure xs.toList
      | _ => unsupported "internal:collect") Q E { s with heap := (s.heap.push (seqObj "list" #[] 0)).update s.heap.objs.size (Obj.mapSeq (· ++ vs.toArray)) }
  refine wpAny_bind (wpAny_load (get?_update_seq (Heap.get?_push_size _ rfl) _) ?_)
  show wpAny _ _ (pure ((#[] : Array Value) ++ vs.toArray).toList) Q E _
  rw [show ((#[] : Array Value) ++ vs.toArray).toList = vs by simp]
  exact wpAny_pure h
theorem sorted_ordT {l : Addr} {vs : List Value} {ltv : Value → Value → Bool} {Q : Value → Shared → Prop} (O : Swo ltv) (hl : s.heap.IsTuple l vs.toArray) (hz : vs.length ≤ sizeLine)
    (hS : 2 ≤ vs.length → ∀ (h₁ : Heap) (a : Addr), h₁.get? a = some (seqObj "list" vs.toArray 0) → (∀ b o, s.heap.get? b = some o → b ≠ a ∧ h₁.get? b = some o) → SortableO prog w A.in1.in1 { s with heap := h₁ } a vs ltv)
    (h : ∀ out : List Value, Srtd ltv out → Stb ltv out vs → Q (.ref (s.heap.objs.size + 1)) { s with heap := sortedAll s.heap vs out.toArray }) :
    wpAny (model prog w) A (call (.builtin "sorted") [.ref l]) Q E s := by
  refine Calls.call_function_entry kind_sorted plain_sorted entry_sorted (args_sorted1 _) ?_
  unfold Builtin.«sorted»
  refine wpAny_bind (m := checkCount "sorted" 1 1 _) (wpAny_pure ?_)
  refine wpAny_bind (collect_tup hl ?_ hz)
  refine wpAny_bind (wpAny_newList ?_ hz)
  have hsz : ((s.heap.push (seqObj "list" #[] 0)).update s.heap.objs.size (Obj.mapSeq (· ++ vs.toArray))).objs.size = s.heap.objs.size + 1 := by
    rw [Heap.size_update, size_push']
  have hoL : (((s.heap.push (seqObj "list" #[] 0)).update s.heap.objs.size (Obj.mapSeq (· ++ vs.toArray))).push (seqObj "list" vs.toArray 0)).get? (s.heap.objs.size + 1) = some (seqObj "list" vs.toArray 0) := by
    rw [← hsz]; exact Heap.get?_push_size _ rfl
  have keep : ∀ b o, s.heap.get? b = some o → b ≠ s.heap.objs.size + 1 ∧ (((s.heap.push (seqObj "list" #[] 0)).update s.heap.objs.size (Obj.mapSeq (· ++ vs.toArray))).push (seqObj "list" vs.toArray 0)).get? b = some o := fun b o q => by
    have hlt : b < s.heap.objs.size := Heap.lt_size q
    refine ⟨Nat.ne_of_lt (Nat.lt_succ_of_lt hlt), Heap.get?_push_of_some _ ?_⟩
    rw [Heap.get?_update_ne _ _ _ _ (Nat.ne_of_lt hlt)]
    exact Heap.get?_push_of_some _ q
  show wpAny _ _ _ _ _ { s with heap := ((s.heap.push (seqObj "list" #[] 0)).update s.heap.objs.size (Obj.mapSeq (· ++ vs.toArray))).push (seqObj "list" vs.toArray 0) }
  rw [hsz]
  refine wpAny_bind (wpAny_holding (wpAny_call_entry slot_list_sort ⟨_, hoL, rfl⟩ entry_list_sort (list_sort_ord O hoL hz (fun h2 => hS h2 _ _ hoL keep) fun out hs hb => ⟨_, rfl, ?_⟩) (args_list_sort _)))
  exact wpAny_pure ⟨_, rfl, h out hs hb⟩
end
end SrtO
namespace L2
open PySem PySem.Spec PyProof.Rows
def rSortedIT (K : PySem.W.Frag) : List V → Hp → VK → Prop := fun vs H Q => ∃ (a : Addr) (ns : List Int), vs = [V.ref a] ∧ SqT K H a (ns.map V.int) ∧
  ∀ (ns' : List Int) (p : Addr), ns'.Perm ns → ns'.Pairwise (· ≤ ·) → H p = none → Q (.ref p) (upd H p (.lst (ns'.map V.int)))
def rInDT (K : PySem.W.Frag) : R2 := fun x y H Q => ∃ d ds, Dp K H x d ∧ Dp K H y (.tuple ds) ∧ SeqAt.shaped d = true ∧ SeqAt.shaped (.tuple ds) = true ∧ Q (.bl (ds.any fun z => PyData.eqv z d)) H
section
variable {X : Cx}
theorem cr_sortedIT : CallR X (.builtin "sorted") (rSortedIT X.K) := by
  intro pins s σ H vs us Q I r h
  obtain ⟨a, ns, rfl, hs, q⟩ := h
  obtain ⟨its, rv, hl, hz⟩ := I.tuple hs
  rw [Vals.ref1 r]
  have hi := rv.ints
  refine SrtO.sorted_ordT SrtO.swo_int hl (by rw [← rv.length]; exact hz) (fun h2 h₁ a' _ _ => SrtO.ints_sortable hi h2) fun out h1 h2 => ?_
  obtain ⟨k1, k2, k3⟩ := SrtO.ints_out hi h1 h2
  obtain ⟨ep, he'⟩ := PyProof.Rows.sortedAll_at s.heap its out.toArray
  have hlen : ((out.map SrtO.iv).map V.int).length ≤ sizeLine := by
    rw [List.length_map, k2.length_eq]
    rw [List.length_map] at hz
    exact hz
  exact ⟨.ref _, upd H (s.heap.objs.size + 1) (.lst ((out.map SrtO.iv).map V.int)), I.laid (t' := s.toks) (fun _ _ => PyProof.Rows.sortedAll_old) (Nat.le_succ _) ⟨hlen, out, ep, vals_of_ints k1, he'⟩, rfl, q _ _ k2 k3 (I.hok.fresh (Nat.le_succ _))⟩
theorem op_inDT (hu : X.A.units + 65 < cLine) : OpR X (compareOp .In) (rInDT X.K) := by
  intro pins s σ H x y v u Q I rx ry h
  obtain ⟨d, ds, hd, he, sd, se, q⟩ := h
  obtain ⟨as, r1⟩ := Dp.reads I d x v hd rx
  obtain ⟨bs, r2⟩ := Dp.reads I (.tuple ds) y u he ry
  exact SeqAt.in_tuple_reads r2 r1 (SeqAt.canLay_of_shaped se) (SeqAt.canLay_of_shaped sd) (room_in_shaped sd hu) ⟨.bl _, H, I, rfl, q⟩
end
end L2

/-! ### tuple[::-1], nested data by <, x not in range(..) -/
namespace HT
open PySem PySem.Spec PyProof.Rows
section
variable {prog : Program} {w : World} {A : Around} {E : Value → Shared → Prop} {s : Shared}
theorem sliceApplied_rev {sl : Addr} {vl vu vs : Value} {n : Nat} {Q : Int × Int × Nat → Shared → Prop} (hs : s.heap.IsSliceOf sl vl vu vs) (pl : IsPart vl none) (pu : IsPart vu none) (ps : IsPart vs (some (-1)))
    (h : Q ((n : Int) - 1, -1, n) s) : wpAny (model prog w) A (Builtin.Slice.sliceApplied (.ref sl) (pure (n : Int))) Q E s := by
  obtain ⟨os, hos, hcs, hds⟩ := id hs
  unfold Builtin.Slice.sliceApplied Builtin.Slice.sliceFields
  refine wpAny_bind (wpAny_bind (wpAny_field hos hds (x := vl) rfl (wpAny_bind (wpAny_field hos hds (x := vu) rfl (wpAny_bind (wpAny_field hos hds (x := vs) rfl (wpAny_pure ?_)))))))
  refine wpAny_bind (slicePart_ ps ?_)
  show wpAny _ _ (if ((-1 : Int) == 0) = true then _ else _) _ _ s
  rw [if_neg (by decide)]
  refine wpAny_bind (slicePart_ pl (wpAny_bind (slicePart_ pu (wpAny_bind (wpAny_pure ?_)))))
  have e2 : Builtin.Slice.slicePlaces ((n : Int) - 1) (-1) (-1) = n := by
    unfold Builtin.Slice.slicePlaces
    rw [if_neg (by decide)]
    by_cases c : (n : Int) - 1 > -1
    · rw [if_pos c, show -(-1 : Int) = 1 from rfl, Int.ediv_one]
      omega
    · rw [if_neg c]
      omega
  show wpAny _ _ (pure (((n : Int) - 1), (-1 : Int), Builtin.Slice.slicePlaces ((n : Int) - 1) (-1) (-1))) _ _ s
  rw [e2]
  exact wpAny_pure h
theorem fm_some {α β : Type} {f : α → Option β} {g : α → β} : ∀ l : List α, (∀ k ∈ l, f k = some (g k)) → l.filterMap f = l.map g
  | [], _ => rfl
  | a :: l, h => by
    rw [List.filterMap_cons, h a List.mem_cons_self, List.map_cons, fm_some l fun k hk => h k (List.mem_cons_of_mem _ hk)]
theorem pick_rev (items : Array Value) : ((List.range items.size).filterMap fun (k : Nat) => items[((items.size : Int) - 1 + (k : Int) * (-1)).toNat]?).toArray = items.toList.reverse.toArray := by
  congr 1
  have hlt : ∀ k ∈ List.range items.size, k < items.size := fun k hk => List.mem_range.mp hk
  have e : ∀ k, k < items.size → items[((items.size : Int) - 1 + (k : Int) * (-1)).toNat]? = some (items.toList.reverse.getD k .none) := fun k hk => by
    rw [show ((items.size : Int) - 1 + (k : Int) * (-1)).toNat = items.size - 1 - k by omega, List.getD_eq_getElem?_getD, List.getElem?_reverse (by rw [Array.length_toList]; exact hk), Array.length_toList, Array.getElem?_toList]
    rw [Array.getElem?_eq_getElem (by omega)]
    rfl
  have e2 : ((List.range items.size).filterMap fun (k : Nat) => items[((items.size : Int) - 1 + (k : Int) * (-1)).toNat]?) = (List.range items.size).map fun k => items.toList.reverse.getD k .none := by
    exact fm_some _ fun k hk => e k (hlt k hk)
  rw [e2]
  refine List.ext_getElem (by rw [List.length_map, List.length_range, List.length_reverse, Array.length_toList]) fun i h1 h2 => ?_
  rw [List.getElem_map, List.getElem_range, List.getD_eq_getElem?_getD, List.getElem?_eq_getElem h2]
  rfl
theorem getItem_tuple_rev {t sl : Addr} {items : Array Value} {vl vu vs : Value} {Q : Value → Shared → Prop} (ht : IsTup s.heap t items) (hs : s.heap.IsSliceOf sl vl vu vs) (pl : IsPart vl none) (pu : IsPart vu none) (ps : IsPart vs (some (-1)))
    (h : Q (.ref s.heap.objs.size) { s with heap := s.heap.push { cls := .type "tuple", data := .seq items.toList.reverse.toArray } }) (hsz : items.size ≤ sizeLine) : wpAny (model prog w) A (getItem (.ref t) (.ref sl)) Q E s := by
  have htake : sizeOk (.seq items.toList.reverse.toArray) := by
    show items.toList.reverse.toArray.size ≤ sizeLine
    rw [List.size_toArray, List.length_reverse, Array.length_toList]
    exact hsz
  obtain ⟨os, hos, hcs, hds⟩ := id hs
  have hTs : s.TypeIs (.ref sl) "slice" := ⟨os, hos, hcs⟩
  unfold getItem
  try with_reducible refine wpAny_holding ?_
  first | refine wpAny_bind (wpAny_pure ?_) | skip
  refine wpAny_bind (wpAny_sequenceKey ht.typeIs (by decide) ?_)
  refine wpAny_bind (wpAny_callSpecial?_slot (name := Str.ofString "__getitem__") ht.typeIs PyProof.Rows.slot_tuple_getitem
    (wpAny_call_entry PyProof.Rows.slot_tuple_getitem ht.typeIs entry_tuple_getitem ?_ (args_tuple_getitem _ _)))
  show wpAny _ _ (Builtin.Tuple.tupleItemsOf (.ref t) >>= _) _ _ s
  refine wpAny_bind (tupleItemsOf_ ht ?_)
  refine wpAny_bind (wpAny_typeOf hTs ?_)
  rw [if_pos (by decide)]
  refine wpAny_bind (sliceApplied_rev hs pl pu ps ?_)
  have hno : ¬ ((((items.size : Int) - 1) == 0 && (-1 : Int) == 1 && items.size == items.size) = true) := by
    intro q
    rw [Bool.and_eq_true, Bool.and_eq_true] at q
    have q1 : (-1 : Int) = 1 := eq_of_beq q.1.2
    omega
  show wpAny _ _ (if (((items.size : Int) - 1) == 0 && (-1 : Int) == 1 && items.size == items.size) = true then _ else _) _ _ s
  rw [if_neg hno, pick_rev]
  first
    | exact wpAny_bind (m := Builtin.Tuple.tupleExact _) (wpAny_newObj_type (wpAny_pure ⟨_, rfl, wpAny_pure h⟩) htake)
    | exact wpAny_bind (m := Builtin.Tuple.tupleExact _) (wpAny_newObj_type (wpAny_bind (wpAny_pure (wpAny_pure ⟨_, rfl, wpAny_pure h⟩))) htake)
    | exact wpAny_bind (wpAny_bind (m := Builtin.Tuple.tupleExact _) (wpAny_newObj_type (wpAny_pure (wpAny_pure ⟨_, rfl, wpAny_pure h⟩)) htake))
    | exact wpAny_bind (wpAny_bind (m := Builtin.Tuple.tupleExact _) (wpAny_newObj_type (wpAny_pure ⟨_, rfl, wpAny_pure h⟩) htake))
end
end HT
namespace L2
open PySem PySem.Spec PyProof.Rows
def tRevT (K : PySem.W.Frag) (te : TE) : TE := fun σ H Q => te σ H fun x H1 => ∃ a xs, x = .ref a ∧ SqT K H1 a xs ∧ ∀ p, H1 p = none → Q (.ref p) (upd H1 p (.tup xs.reverse))
section
variable {X : Cx}
theorem pe_revT {e : Expr} {te : TE} {k : Nat} {p1 p2 p3 pos : Pos} {K : PySem.W.Frag} (hK : X.K = K) (he : PE X e te) : PE X (.Subscript e (.Slice none none (some (.UnaryOp .USub (.Constant (.int 1) k p1) p2)) p3) pos) (tRevT K te) := by
  subst hK
  refine ⟨fun pins s σ H Q I h => ?_⟩
  refine Subscript_ (thn (he.run pins s σ H _ I h) fun v s1 ⟨x, H1, I1, r1, q1⟩ => ?_)
  obtain ⟨a, xs, ex, hx, q⟩ := q1
  subst ex
  cases r1
  have hst : PO X (some (.UnaryOp .USub (.Constant (.int 1) k p1) p2)) (tPart (tUn (rU fun i => .int (-i)) (tC (.int 1)))) := po_some (pe_un un_neg pe_int)
  refine wpAny_Slice (thn (po_none.run pins s1 σ H1 (fun o H2 => o = none ∧ H2 = H1) I1 ⟨rfl, rfl⟩) fun vl s2 ⟨l, H2, I2, pl, el, e2⟩ => ?_)
  subst el e2
  refine thn (po_none.run pins s2 σ H2 (fun o H3 => o = none ∧ H3 = H2) I2 ⟨rfl, rfl⟩) fun vu s3 ⟨u, H3, I3, pu, eu, e3⟩ => ?_
  subst eu e3
  refine thn (hst.run pins s3 σ H3 (fun o H4 => o = some (-1) ∧ H4 = H3) I3 ⟨1, rfl, -1, rfl, rfl, rfl⟩) fun vs s4 ⟨o, H4, I4, ps, eo, e4⟩ => ?_
  subst eo e4
  have I5 : Inv X pins σ H4 { s4 with heap := s4.heap.push { cls := .type "slice", data := .fields #[vl, vu, vs] } } := I4.kept (t' := s4.toks) fun b ob q => Heap.get?_push_of_some _ q
  obtain ⟨its, r, ht, hz⟩ := I5.tuple hx
  have hlen := r.length
  show wpAny (model X.prog X.w) X.A (subscriptTail e (.Slice none none (some (.UnaryOp .USub (.Constant (.int 1) k p1) p2)) p3) (.ref a) (.ref s4.heap.objs.size)) (EP X pins σ Q) X.xe { s4 with heap := s4.heap.push { cls := .type "slice", data := .fields #[vl, vu, vs] } }
  refine tail_any (ops := [.ref a, .ref s4.heap.objs.size]) ht.typeIs (PyProof.Rows.slot_tuple_getitem.lookup) ?_ (by with_unfolding_all rfl)
  refine HT.getItem_tuple_rev ht (Heap.IsSliceOf.new _ vl vu vs) pl pu ps ?_ (by rw [List.size_toArray]; omega)
  refine ⟨.ref _, _, I5.laid (t' := s4.toks) (o := .tup xs.reverse) (fun b ob q => Heap.get?_push_of_some _ q) (Nat.le_refl _) ?_, rfl, q _ (I5.hok.fresh (Nat.le_refl _))⟩
  exact ⟨by rw [List.length_reverse]; exact hz, _, r.reverse, IsTup.new _ _⟩
/-- nested data of one shape -/
def rLtD (K : PySem.W.Frag) : R2 := fun x y H Q => ∃ d e, Dp K H x d ∧ Dp K H y e ∧ PySem.W.alike d e = true ∧ d ≠ .none ∧ d.depth ≤ 64 ∧ Q (.bl (PySem.W.dataLt d e)) H
theorem op_ltD (hu : X.A.units + 64 < cLine) : OpR X (compareOp .Lt) (rLtD X.K) := by
  intro pins s σ H x y v u Q I rx ry h
  obtain ⟨d, e, hd, he, al, nn, dep, q⟩ := h
  obtain ⟨as, r1⟩ := Dp.reads I d x v hd rx
  obtain ⟨bs, r2⟩ := Dp.reads I e y u he ry
  exact PySem.W.rcLt_alike d e X.A s v u as bs r1 r2 al nn (by have := Nat.min_le_left d.depth e.depth; omega) X.prog X.w _ _ ⟨.bl _, H, I, rfl, q⟩
theorem cr_range1 : CallR X (.type "range") (fun vs H Q => ∃ j, vs = [V.int j] ∧ ∀ p, H p = none → Q (.ref p) (upd H p (.rng 0 j))) := by
  intro pins s σ H vs us Q I r h
  obtain ⟨j, rfl, q⟩ := h
  obtain ⟨u1, rfl, rj⟩ : ∃ u1, us = [u1] ∧ RelV (.int j) u1 := by
    cases r with
    | cons r rr =>
      cases rr
      exact ⟨_, rfl, r⟩
  obtain ⟨u, rfl⟩ := rj
  refine call_range_1 ⟨.ref s.heap.objs.size, upd H s.heap.objs.size (.rng 0 j), I.laid (t' := s.toks + 1 + 1) (fun b o e => Heap.get?_push_of_some _ e) (Nat.le_refl _) ?_, rfl, q _ (I.hok.fresh (Nat.le_refl _))⟩
  exact ⟨s.toks, u, s.toks + 1, Heap.get?_push_size _ rfl⟩
theorem op_notIn_rng : OpR X (compareOp .NotIn) (fun x y H Q => ∃ i a lo hi, x = V.int i ∧ y = V.ref a ∧ H a = some (.rng lo hi) ∧ Q (.bl (!decide (lo ≤ i ∧ i < hi))) H) := by
  intro pins s σ H x y v u Q I rx ry h
  obtain ⟨i, a, lo, hi, rfl, rfl, ha, q⟩ := h
  obtain ⟨k, rfl⟩ := rx
  obtain rfl : u = Value.ref a := ry
  obtain ⟨t1, t2, t3, ho⟩ := I.hok a _ ha
  show wpAny _ _ (do return Value.bool (!(← contains (Value.ref a) (Value.int i k)))) _ _ s
  refine wpAny_bind (wpAny_contains_slot (T := "range") ⟨_, ho, rfl⟩ F.slot_range_contains (call_meets F.slot_range_contains ⟨_, ho, rfl⟩ F.entry_range_contains (F.args_range_contains_2 _ _) (q_contains a lo hi i t1 t2 t3 k)
    ⟨ho, wpAny_truthy_bool (wpAny_pure ⟨.bl _, H, I, rfl, ?_⟩)⟩))
  rw [place1]
  exact q
end
end L2

/-! ### tuple(d.values()) -/
namespace L2
open PySem PySem.Spec PyProof.Rows PySem.W
section
variable {prog : Program} {w : World} {A : Around} {E : Value → Shared → Prop} {s : Shared} {T : String} {r d : Addr} {n : Nat} {P : Nat → Value → Prop} {OK : Heap → Prop}
theorem collect_kdl {Q : List Value → Shared → Prop} (K : KdlSrc prog w T r d n P OK) (hh : A.handled = none) (hok : OK s.heap) (hn : n ≤ sizeLine)
    (hQ : ∀ (h' : Heap) (tk : Nat) (acc : Array Value), (∀ b o, s.heap.get? b = some o → h'.get? b = some o) → ItemsOf P acc n → Q acc.toList { s with heap := h', toks := tk }) :
    wpAny (model prog w) A (collect (.ref r)) Q E s := by
  have hlt := K.there _ hok
  unfold collect
  refine wpAny_bind (wpAny_runValue (codeAny_builtin F.entry_proto_collect ?_))
  rw [Around.under_plainId F.plain_proto_collect _]
  show wpAny _ A.in1 (newList [] >>= fun l => again (.builtin "list.__iadd__" ⟨[l, .ref r], []⟩)) _ _ s
  refine wpAny_bind (wpAny_newObj_type ?_)
  refine wpAny_pure ⟨plainId_quiet F.plain_list_iadd _, codeAny_builtin F.entry_list_iadd ?_⟩
  rw [Around.under_plainId F.plain_list_iadd _]
  show wpAny _ A.in1 (Builtin.List.listExtendWith (.ref s.heap.objs.size) (.ref r) (.ref s.heap.objs.size)) _ _ _
  have hS : (s.heap.push { cls := .type "list", data := .seq ([] : List Value).toArray }).get? s.heap.objs.size = some { cls := .type "list", data := .seq #[] 0 } := Heap.get?_push_size _ rfl
  refine wpAny_mono (kdl_extend (A := A) (R := fun rr s' => rr = .ok (.ret (.ref s.heap.objs.size)) ∧ ∃ (h' : Heap) (tk : Nat) (acc : Array Value) (c' : Nat), s' = { s with heap := h', toks := tk } ∧
      (∀ b o, s.heap.get? b = some o → h'.get? b = some o) ∧ h'.get? s.heap.objs.size = some { cls := .type "list", dict := none, data := .seq acc c', slots := #[] } ∧ ItemsOf P acc n)
    (s := { s with heap := s.heap.push { cls := .type "list", data := .seq ([] : List Value).toArray } }) K hh (K.keep _ _ hok fun b _ o e => Heap.get?_push_of_some _ e) _ (Nat.ne_of_gt hlt.1) (Nat.ne_of_gt hlt.2) _ 0 hS
    (fun h' tk acc c' hk e hi => ⟨rfl, h', tk, acc, c', rfl, fun b o q => hk b o (Nat.ne_of_lt (Heap.lt_size q)) (Heap.get?_push_of_some _ q), e, hi⟩) hn) (fun fin s' h => ?_) (fun e s' h => ?_)
  · cases fin with
    | done f =>
      obtain ⟨e, h', tk, acc, c', rfl, hk, hS', hi⟩ := h
      cases e
      show wpAny _ A (load s.heap.objs.size >>= _) _ _ _
      exact wpAny_bind (wpAny_load hS' (wpAny_pure (hQ h' tk acc hk hi)))
    | again c' =>
      refine ⟨h.1, codeAny_mono h.2 fun rr s'' hr' => ?_⟩
      obtain ⟨rfl, h', tk, acc, c', rfl, hk, hS', hi⟩ := hr'
      show wpAny _ A (load s.heap.objs.size >>= _) _ _ _
      exact wpAny_bind (wpAny_load hS' (wpAny_pure (hQ h' tk acc hk hi)))
  · exact absurd h.1 (by simp)
theorem code_tuple_new_kdl {Q₁ : Value → Shared → Prop} (K : KdlSrc prog w "dict_values" r d n P OK) (hh : A.handled = none) (hok : OK s.heap) (hn : n ≤ sizeLine)
    (h : ∀ (h' : Heap) (tk : Nat) (acc : Array Value), (∀ b o, s.heap.get? b = some o → h'.get? b = some o) → ItemsOf P acc n →
      Q₁ (.ref h'.objs.size) { s with heap := h'.push { cls := .type "tuple", data := .seq acc }, toks := tk }) :
    codeAny (model prog w) A (.call (.builtin "tuple.__new__") ⟨[.type "tuple", .ref r], []⟩) (wants Q₁ E) s := by
  refine codeAny_of_tree ?_
  show wpAny _ A.in1 (do checkBuiltinCall "tuple.__new__" ⟨[.type "tuple", .ref r], []⟩; again (.builtin "tuple.__new__" ⟨[.type "tuple", .ref r], []⟩)) _ _ s
  refine wpAny_bind (wpAny_of_eq (F.newCall_tuple_1 _) (wpAny_pure ⟨plainId_quiet F.plain_tuple_new _, codeAny_builtin F.entry_tuple_new ?_⟩))
  rw [Around.under_plainId F.plain_tuple_new _]
  have hsub := sub_tuple_self
  have hinit := init_tuple_lookup
  have hmh := madeHere_tuple
  have hTI : s.TypeIs (.ref r) "dict_values" := K.type s hok
  have hh1 : A.in1.handled = none := hh
  wp_walk using wpAny_typeOf hTI, collect_kdl (A := A.in1) K hh1 hok hn
  intro h' tk acc hk hacc
  show wpAny _ _ (Builtin.Tuple.tupleExact acc.toList.toArray >>= fun v => ret v) _ _ _
  unfold Builtin.Tuple.tupleExact
  refine wpAny_bind (wpAny_newObj_type ?_ (by show acc.toList.toArray.size ≤ sizeLine; simp only [Array.toArray_toList]; rw [hacc.1]; exact hn))
  refine wpAny_pure ?_
  have e : acc.toList.toArray = acc := by simp
  rw [e]
  exact h h' tk acc hk hacc
theorem call_tuple_kdl {Q : Value → Shared → Prop} (K : KdlSrc prog w "dict_values" r d n P OK) (hh : A.handled = none) (hok : OK s.heap) (hn : n ≤ sizeLine)
    (hQ : ∀ (h' : Heap) (tk : Nat) (acc : Array Value), (∀ b o, s.heap.get? b = some o → h'.get? b = some o) → ItemsOf P acc n →
      Q (.ref h'.objs.size) { s with heap := h'.push { cls := .type "tuple", data := .seq acc }, toks := tk }) :
    wpAny (model prog w) A (call (.type "tuple") [.ref r]) Q E s := by
  refine callType_codes (Q₁ := fun obj s₁ => s₁.TypeIs obj "tuple" ∧ Q obj s₁) F.called_tuple (F.typeCall_tuple_1 _) F.entry_object_init
    (code_tuple_new_kdl (A := A.in1) K hh hok hn fun h' tk acc hk hacc => ⟨⟨_, Heap.get?_push_size _ rfl, rfl⟩, hQ h' tk acc hk hacc⟩) fun obj s₁ h₁ => ?_
  exact ⟨h₁.1, F.args_object_init_2 obj _, object_init_meets F.called_tuple.init.lookup F.called_tuple.made (by decide) prog w A.in1 _ s₁ ⟨h₁.1, rfl, h₁.2⟩⟩
end
def tTupVals (td : TE) : TE := fun σ H Q => td σ H fun x H1 => ∃ a kvs, x = V.ref a ∧ H1 a = some (.dK kvs) ∧ ∀ p, H1 p = none → Q (.ref p) (upd H1 p (.tup (kvs.map (·.2))))
section
variable {X : Cx} {o : Expr} {p pos apos mpos : Pos} {td : TE}
theorem pe_tupVals (hc : X.calm = true) (hg : Gl X "tuple") (hm : X.mg "tuple" = none) (hd : PE X o td) (hbase : attributeBase o "values" X.env (eval o X.env) = eval o X.env := by rfl) (hline : (apos.endLine == mpos.line) = true := by rfl)
    (hse : starEach [Expr.Call (.Attribute o "values" apos) [] [] mpos] X.env = [(false, eval (Expr.Call (.Attribute o "values" apos) [] [] mpos) X.env)] := by rfl) :
    PE X (.Call (.Name "tuple" p) [.Call (.Attribute o "values" apos) [] [] mpos] [] pos) (tTupVals td) := by
  refine ⟨fun pins s σ H Q I h => ?_⟩
  have hse2 : starEach [Expr.Call (.Attribute o "values" apos) [] [] mpos] X.env = (false, eval (Expr.Call (.Attribute o "values" apos) [] [] mpos) X.env) :: starEach [] X.env := hse
  refine Call_ (ld_blt I hg hm boot_tuple (PyProof.Rows.callWith_type1 (args_cons (wpAny_Call_method0_late hbase hline (thn (hd.run pins s σ H _ I h) fun v s1 ⟨x, H1, I1, r1, a, kvs, ex, ha, q⟩ => ?_)) hse2) hse2 rfl))
  subst ex
  obtain rfl : v = Value.ref a := r1
  obtain ⟨z, hsys, vs, rel, dof⟩ := dk_of I1.hok ha
  obtain ⟨ep, dat⟩ := dof.dictAt
  have dat' := dat
  obtain ⟨ob, es, ho, ex, hdat, hko, hpr, hnd⟩ := dat'
  refine ⟨"dict", "dict.values", F.plainAttrs_dict, F.slot_dict_values, F.type_dict_values, ⟨ob, ho, ex.1⟩, fun b e => ?_, Calls.callWith_builtin rfl (PySem.evalArgs_none ?_)⟩
  · cases e
    exact ⟨ob, ho, ex.2.1⟩
  refine call_meetsIn F.slot_dict_values ⟨ob, ho, ex.1⟩ F.entry_dict_values (F.args_dict_values_1 _) (meets_dict_values (mixKind X.prog X.w) a hsys) ⟨⟨vs, dof⟩, ?_⟩
  have k1 : ∀ b u, s1.heap.get? b = some u → (s1.heap.push { cls := .type "dict_values", data := .fields #[.ref a] }).get? b = some u := fun b u e => Heap.get?_push_of_some _ e
  have dat1 : (s1.heap.push { cls := .type "dict_values", data := .fields #[.ref a] }).DictAt (mixKind X.prog X.w) a vs ep := dat.keep k1
  refine args_nil ?_
  have hl : kvs.length = vs.length := Paired.length rel
  have I2 : Inv X pins σ H1 { s1 with heap := s1.heap.push { cls := .type "dict_values", data := .fields #[.ref a] } } := I1.kept (t' := s1.toks) k1
  refine call_tuple_kdl (kdl_values (knd := mixKind X.prog X.w) (d := a) (r := s1.heap.objs.size) (kvs := vs) (ep := ep)) (I.ok.hd hc) ⟨⟨_, Heap.get?_push_size _ rfl, rfl, rfl⟩, dat1⟩ (by rw [← hl]; exact z) fun h' tk acc hk hacc => ?_
  have I3 : Inv X pins σ H1 { s1 with heap := h', toks := tk } := I2.kept (t' := tk) hk
  refine ⟨.ref h'.objs.size, upd H1 h'.objs.size (.tup (kvs.map (·.2))), I3.laid (t' := tk) (fun b o e => Heap.get?_push_of_some _ e) (Nat.le_refl _) (show ObjOk X.prog X.w _ _ _ (.tup (kvs.map (·.2))) from ⟨by rw [List.length_map]; exact z, acc.toList, ?_, by rw [Array.toArray_toList]; exact IsTup.new _ _⟩), rfl, q _ (I3.hok.fresh (Nat.le_refl _))⟩
  have el : acc.toList.length = acc.size := by simp
  refine vals_of_at (by rw [List.length_map, el, hacc.1, hl]) fun j x w h1 h2 => ?_
  obtain ⟨k, hky⟩ := hacc.2 j w (by rw [← Array.getElem?_toList]; exact h2)
  obtain ⟨y, h3, h4⟩ := KV.at' rel hky
  rw [List.getElem?_map, h3] at h1
  cases h1
  exact h4
end
end L2

/-! ### enumerate over a tuple (the hand layer has it over a list) -/
namespace PySem
open Sem (wp)
open AutoSeq1 (wpAny_loadPart')
theorem new_enumT (t : Addr) (its : Array Value) (n : Nat) (dc : Option Addr) (sl : Array (Option Value)) :
    Meets (Builtin.«enumerate.__new__» ⟨[.type "enumerate", .ref t], []⟩) (fun _ R s => s.heap.get? t = some { cls := .type "tuple", dict := dc, data := .seq its n, slots := sl } ∧
      R (.ok (.ret (.ref (s.heap.push { cls := .type "tuple_iterator", data := .fields #[.ref t, .int 0 0] }).objs.size)))
        { s with heap := (s.heap.push { cls := .type "tuple_iterator", data := .fields #[.ref t, .int 0 0] }).push { cls := .type "enumerate", data := .fields #[.none, .bool false, .ref s.heap.objs.size, rawInt 0, .none, .none] } }) :=
  .of_wp fun prog w A R s both => by
    obtain ⟨hp, g, d, tk, os⟩ := s
    obtain ⟨ht, both⟩ := both
    have below := sub_enumerate
    have tup : Heap.IsTuple (Shared.heap ⟨hp, g, d, tk, os⟩) t its := ⟨_, ht, rfl, n, rfl⟩
    wp_walk using wpAny_loadPart' ht
    refine wpAny_stack_any fun _ => wpAny_pure ?_
    split
    · rename_i c _ _ _ _ _
      cases (c == Value.type "enumerate")
      · wp_walk using wpAny_loadPart' ht, wpAny_pyIter_tuple tup
        exact ⟨_, rfl, both⟩
      · wp_walk using wpAny_loadPart' ht, wpAny_pyIter_tuple tup
        exact ⟨_, rfl, both⟩
    · wp_walk using wpAny_loadPart' ht, wpAny_pyIter_tuple tup
      exact ⟨_, rfl, both⟩
section
variable {prog : Program} {w : World} {A : Around} {E : Value → Shared → Prop} {s : Shared}
theorem call_enumT {t : Addr} {its : Array Value} {Q : Value → Shared → Prop} (ht : s.heap.IsTuple t its)
    (q : ∀ h', IsEnum h' (s.heap.objs.size + 1) s.heap.objs.size 0 .none → h'.IsTupleIter s.heap.objs.size t 0 →
      (∀ b o, s.heap.get? b = some o → h'.get? b = some o) → Q (.ref (s.heap.objs.size + 1)) { s with heap := h' }) :
    wpAny (model prog w) A (call (.type "enumerate") [.ref t]) Q E s := by
  obtain ⟨⟨c, dc, da, sl⟩, ht, ec, n, ed⟩ := ht
  obtain rfl : c = .type "tuple" := ec
  obtain rfl : da = .seq its n := ed
  refine callType_new F.called_enumerate (by decide) (F.typeCall_enumerate_1 _) (F.newCall_enumerate_1 _) (fun ob => F.args_object_init_2 ob _) F.entry_enumerate_new (new_enumT t its n dc sl) ⟨ht, ?_⟩
  have sz : (s.heap.push { cls := .type "tuple_iterator", data := .fields #[.ref t, .int 0 0] }).objs.size = s.heap.objs.size + 1 := Heap.size_push ..
  show _ ∧ _
  rw [sz]
  have en : IsEnum ((s.heap.push { cls := .type "tuple_iterator", data := .fields #[.ref t, .int 0 0] }).push { cls := .type "enumerate", data := .fields #[.none, .bool false, .ref s.heap.objs.size, rawInt 0, .none, .none] })
      (s.heap.objs.size + 1) s.heap.objs.size 0 .none := by
    have z := Heap.get?_push_size (s.heap.push { cls := .type "tuple_iterator", data := .fields #[.ref t, .int 0 0] }) (o := { cls := .type "enumerate", data := .fields #[.none, .bool false, .ref s.heap.objs.size, rawInt 0, .none, .none] }) rfl
    rw [sz] at z
    exact z
  exact ⟨⟨_, en, rfl⟩, q _ en ⟨_, Heap.get?_push_of_some _ (Heap.get?_push_size _ rfl), rfl, rfl⟩ fun b o x => Heap.get?_push_of_some _ (Heap.get?_push_of_some _ x)⟩
end
end PySem
namespace L2
open PySem PySem.Spec PyProof.Rows
/-- the tuple at a, each item in a new pair behind its index -/
def IteT (K : PySem.W.Frag) (a : Addr) : It :=
  ⟨fun i H => ∃ (ys : List V) (y : V), SqT K H a ys ∧ ys[i]? = some y, fun i H v H' => ∃ p y, v = .ref p ∧ H p = none ∧ H' = upd H p (.tup [.int (i : Nat), y]) ∧ ∀ ys, SqT K H a ys → ys[i]? = some y,
    fun i H => ∃ ys : List V, SqT K H a ys ∧ ys.length = i⟩
theorem turn_enumT {P : Program} {w : World} {K : PySem.W.Frag} {elts : List Expr} {kk : Nat} {tp : Pos} (a e it : Addr) :
    Turn P w K (.Tuple elts kk tp) (IteT K a) [e, it] e (fun i h => (∃ old, IsEnum h e it ((i : Nat) : Int) old) ∧ h.IsTupleIter it a i ∧ (e ≠ it ∧ a ≠ it ∧ a ≠ e)) where
  mem := by simp
  obj := fun i h st b hb => by
    obtain ⟨⟨old, he⟩, ⟨o, ho, _, dd⟩, _⟩ := st
    rcases (show b = e ∨ b = it by simpa using hb) with rfl | rfl
    · exact ⟨_, he, fun v z => nomatch z⟩
    · exact ⟨o, ho, fun v z => by rw [dd] at z; exact nomatch z⟩
  keep := fun i h h' st k => by
    obtain ⟨⟨old, he⟩, ⟨o, ho, r⟩, ne⟩ := st
    exact ⟨⟨old, k e (by simp) _ he⟩, ⟨o, k it (by simp) _ ho, r⟩, ne⟩
  item := by
    intro X hP hw hK hc i pins s σ H E I hf st hg
    subst hP hw hK
    obtain ⟨⟨old, he⟩, hit, ne, nai, nae⟩ := st
    obtain ⟨ys, y, hq, hy⟩ := hg
    obtain ⟨its, rv, p, hz⟩ := I.tuple hq
    obtain ⟨u, hu, ru⟩ := rv.get hy
    have szE : e < s.heap.objs.size := Heap.lt_size he
    have szI : it < s.heap.objs.size := by
      obtain ⟨_, z, _⟩ := hit
      exact Heap.lt_size z
    have small : ∀ b ∈ [e, it], b < s.heap.objs.size := fun b hb => by
      rcases (show b = e ∨ b = it by simpa using hb) with rfl | rfl <;> assumption
    have D := Draws.tuple (prog := X.prog) (w := X.w) (A := X.A.in1) (I.ok.hd hc) it a nai its.toArray
    have hlt : i < its.toArray.size := by
      have := (List.getElem?_eq_some_iff.mp hu).1
      simpa using this
    refine wpAny_pyNext_enum_itemD D he ⟨hit, p⟩ hlt ne (by simp only [List.mem_cons, List.not_mem_nil, or_false, not_or]; exact ⟨ne, Ne.symm nae⟩) fun x h' tk hx ho st2 hT hsz hk => ?_
    obtain ⟨hit2, _⟩ := st2
    have ex : x = u := by
      have h2 : its.toArray[i]? = some u := by simpa using hu
      rw [h2] at hx
      exact (Option.some.inj hx).symm
    subst ex
    refine ⟨_, rfl, wpAny_letOwnedTupleGo_enum (s := { s with heap := h', toks := tk + 1 }) ho fun h'' he' sb => ?_⟩
    have hT2 : h''.get? s.heap.objs.size = some { cls := .type "tuple", data := .seq #[.int i tk, x] } := (sb.2 _ (Nat.ne_of_gt szE)).trans hT
    have okN : ObjOk X.prog X.w (upd H s.heap.objs.size (.tup [.int (i : Nat), y])) h'' s.heap.objs.size (.tup [.int (i : Nat), y]) :=
      ⟨by show 2 ≤ sizeLine; decide, [.int i tk, x], .cons ⟨_, rfl⟩ (.cons ru .nil), ⟨_, hT2, rfl, _, rfl⟩⟩
    have J : Inv X pins σ (upd H s.heap.objs.size (.tup [.int (i : Nat), y])) { s with heap := h'', toks := tk + 1 } :=
      I.turnedNew (ch := [e, it]) (fun b ob hb z => (sb.2 b (fun y => hb (by simp [y]))).trans (hk b ob (fun y => hb (by simp [y])) (fun y => hb (by simp [y])) z)) hf (Nat.le_refl _) okN
    refine ⟨.ref s.heap.objs.size, _, J, rfl, ⟨_, y, rfl, I.hok.fresh (Nat.le_refl _), rfl, fun zs hs => by rw [I.tuple_inj hs hq]; exact hy⟩, ⟨⟨x, ?_⟩, ?_, ne, nai, nae⟩, fun b hb => ?_⟩
    · rw [show ((i + 1 : Nat) : Int) = (i : Int) + 1 by omega]
      exact he'
    · obtain ⟨o, ho2, r⟩ := hit2
      exact ⟨o, (sb.2 it (Ne.symm ne)).trans ho2, r⟩
    · rw [upd_ne (Nat.ne_of_lt (small b hb))]
      exact (hf b hb).1
  done := by
    intro X hP hw hK hc i pins s σ H E I hf st hg
    subst hP hw hK
    obtain ⟨⟨old, he⟩, hit, ne, nai, nae⟩ := st
    obtain ⟨ys, hq, hle⟩ := hg
    obtain ⟨its, rv, p, hz⟩ := I.tuple hq
    have len : its.toArray.size = i := by
      have := rv.length
      simp
      omega
    obtain ⟨g0, g1, _, g3, g4, g5⟩ := hf it (by simp)
    rw [← len] at hit
    have D := Draws.tuple (prog := X.prog) (w := X.w) (A := X.A.in1) (I.ok.hd hc) it a nai its.toArray
    exact wpAny_pyNext_enum_endD D he ⟨hit, p⟩ fun h' eb => ⟨rfl, I.turned (t' := s.toks) (fun b o hb z => eb b o hb z) g0 g1 g3 g4 g5⟩
  self := fun A i s Q E st h => by
    obtain ⟨⟨_, he⟩, _⟩ := st
    exact wpAny_pyIter_enum he h
def iEnumT (K : PySem.W.Frag) (ta : TA) : TI := fun σ H R => ta σ H fun vs H1 => ∃ a ys, vs = [.ref a] ∧ SqT K H1 a ys ∧ R (IteT K a) H1
theorem pi_enumT {X : Cx} {e : Expr} {ta : TA} {p pos tp : Pos} {elts : List Expr} {kk : Nat} (hg : Gl X "enumerate") (hm : X.mg "enumerate" = none) (ha : PA X [e] ta) (hs : starEach [e] X.env = [(false, eval e X.env)] := by rfl) :
    PI X (.Tuple elts kk tp) (.Call (.Name "enumerate" p) [e] [] pos) (iEnumT X.K ta) := by
  refine ⟨fun pins s σ H R I h => Call_ (ld_blt I hg hm boot_enumerate (PyProof.Rows.callWith_type1 (thn (ha.run pos pins s σ H _ I h) fun us s1 ⟨vs, H1, I1, r1, q1⟩ => ?_) hs rfl))⟩
  obtain ⟨a, ys, rfl, hq, q⟩ := q1
  cases r1 with
  | cons r rr =>
    cases rr
    cases r
    obtain ⟨its, rv, p', hz⟩ := I1.tuple hq
    have hp' : s1.heap.IsTuple a its.toArray := p'
    have old : a < s1.heap.objs.size := by
      obtain ⟨o, ho, _⟩ := hp'
      exact Heap.lt_size ho
    refine call_enumT hp' fun h' he hit hk => wpAny_pyIter_enum he ?_
    refine ⟨s1.heap.objs.size + 1, [s1.heap.objs.size + 1, s1.heap.objs.size], _, _, H1, rfl, I1.kept (t' := s1.toks) hk, turn_enumT a (s1.heap.objs.size + 1) s1.heap.objs.size,
      ⟨⟨.none, he⟩, hit, Nat.succ_ne_self _, Nat.ne_of_lt old, Nat.ne_of_lt (Nat.lt_succ_of_lt old)⟩, fun b hb => ?_, q⟩
    have hle : s1.heap.objs.size ≤ b := by
      rcases (show b = s1.heap.objs.size + 1 ∨ b = s1.heap.objs.size by simpa using hb) with rfl | rfl
      · exact Nat.le_succ _
      · exact Nat.le_refl _
    exact I1.fpOk hle (I1.hok.fresh hle)
theorem walk_enumT {K : PySem.W.Frag} {a : Addr} {xs : List V} : Walk (IteT K a) xs.length (fun H => SqT K H a xs) (YPair (fun i => some (.int (i : Nat))) (fun i => xs[i]?)) :=
  ⟨fun i H hi h => ⟨xs, _, h, List.getElem?_eq_getElem hi⟩, fun H h => ⟨xs, h, rfl⟩, fun i H v H' hi h y => by
    obtain ⟨p, z, rfl, np, rfl, hz⟩ := y
    exact ⟨p, _, z, rfl, np, rfl, rfl, hz xs h⟩⟩
end L2

/-! ### max and min of a tuple of ints -/
namespace L2
open PySem PySem.Spec PyProof.Rows
theorem readsAll_ints {h : Heap} : ∀ {ns : List Int} {its : List Value}, Vals (ns.map V.int) its → ReadsAll h its (ns.map PyData.int) []
  | [], _, .nil => .nil
  | n :: ns, _, .cons r t => by
    obtain ⟨k, rfl⟩ := r
    exact .cons (.int n k) (readsAll_ints t)
theorem alikeAll_ints (ns : List Int) : PySem.W.AlikeAll (ns.map PyData.int) := by
  refine ⟨fun x hx y hy => ?_, fun x hx => ?_⟩
  · obtain ⟨a, _, rfl⟩ := List.mem_map.mp hx
    obtain ⟨b, _, rfl⟩ := List.mem_map.mp hy
    simp [PySem.W.alike]
  · obtain ⟨a, _, rfl⟩ := List.mem_map.mp hx
    exact fun z => nomatch z
theorem depthAll_ints : ∀ ns : List Int, PyData.depthAll (ns.map PyData.int) = 0
  | [] => by simp [PyData.depthAll]
  | _ :: ns => by simp [PyData.depthAll, PyData.depth, depthAll_ints ns]
theorem foldl_max (x : Int) : ∀ xs : List Int, xs.foldl max x ∈ x :: xs ∧ ∀ y ∈ x :: xs, y ≤ xs.foldl max x := by
  intro xs
  induction xs generalizing x with
  | nil => exact ⟨List.mem_cons_self, fun y hy => by rw [List.mem_singleton.mp hy]; exact Int.le_refl _⟩
  | cons a xs ih =>
    obtain ⟨h1, h2⟩ := ih (max x a)
    rw [List.foldl_cons]
    have h3 := h2 _ List.mem_cons_self
    refine ⟨?_, fun y hy => ?_⟩
    · rcases List.mem_cons.mp h1 with e | e
      · rw [e]
        by_cases c : x ≤ a
        · rw [show max x a = a by omega]
          exact List.mem_cons_of_mem _ List.mem_cons_self
        · rw [show max x a = x by omega]
          exact List.mem_cons_self
      · exact List.mem_cons_of_mem _ (List.mem_cons_of_mem _ e)
    · rcases List.mem_cons.mp hy with rfl | hy
      · omega
      · rcases List.mem_cons.mp hy with rfl | hy
        · omega
        · exact h2 y (List.mem_cons_of_mem _ hy)
theorem foldl_min (x : Int) : ∀ xs : List Int, xs.foldl min x ∈ x :: xs ∧ ∀ y ∈ x :: xs, xs.foldl min x ≤ y := by
  intro xs
  induction xs generalizing x with
  | nil => exact ⟨List.mem_cons_self, fun y hy => by rw [List.mem_singleton.mp hy]; exact Int.le_refl _⟩
  | cons a xs ih =>
    obtain ⟨h1, h2⟩ := ih (min x a)
    rw [List.foldl_cons]
    have h3 := h2 _ List.mem_cons_self
    refine ⟨?_, fun y hy => ?_⟩
    · rcases List.mem_cons.mp h1 with e | e
      · rw [e]
        by_cases c : x ≤ a
        · rw [show min x a = x by omega]
          exact List.mem_cons_self
        · rw [show min x a = a by omega]
          exact List.mem_cons_of_mem _ List.mem_cons_self
      · exact List.mem_cons_of_mem _ (List.mem_cons_of_mem _ e)
    · rcases List.mem_cons.mp hy with rfl | hy
      · omega
      · rcases List.mem_cons.mp hy with rfl | hy
        · omega
        · exact h2 y (List.mem_cons_of_mem _ hy)
def rMaxTI (K : PySem.W.Frag) : List V → Hp → VK → Prop := fun vs H Q => ∃ (a : Addr) (ns : List Int), vs = [V.ref a] ∧ SqT K H a (ns.map V.int) ∧ 0 < ns.length ∧ ∀ m, m ∈ ns → (∀ y, y ∈ ns → y ≤ m) → Q (.int m) H
def rMinTI (K : PySem.W.Frag) : List V → Hp → VK → Prop := fun vs H Q => ∃ (a : Addr) (ns : List Int), vs = [V.ref a] ∧ SqT K H a (ns.map V.int) ∧ 0 < ns.length ∧ ∀ m, m ∈ ns → (∀ y, y ∈ ns → m ≤ y) → Q (.int m) H
section
variable {X : Cx}
theorem cr_maxTI (hc : X.calm = true) (hu : X.A.units + 64 < cLine) : CallR X (.builtin "max") (rMaxTI X.K) := by
  intro pins s σ H vs us Q I r h
  obtain ⟨a, ns, rfl, hs, hne, q⟩ := h
  obtain ⟨its, rv, hl, _⟩ := I.tuple hs
  rw [Vals.ref1 r]
  cases ns with
  | nil => exact absurd hne (Nat.lt_irrefl 0)
  | cons x xs =>
    have hr : ReadsAll s.heap its.toArray.toList (PyData.int x :: xs.map PyData.int) [] := readsAll_ints rv
    refine PySem.W.max_tuple_data (I.ok.hd hc) hl hr (alikeAll_ints (x :: xs)) (by rw [show PyData.int x :: xs.map PyData.int = (x :: xs).map PyData.int from rfl, depthAll_ints]; omega) fun i v h' tk bs _ hv hk => ?_
    rw [PySem.W.maxD_ints] at hv
    obtain ⟨m1, m2⟩ := foldl_max x xs
    cases hv
    exact ⟨.int _, H, I.kept hk, ⟨_, rfl⟩, q _ m1 m2⟩
theorem cr_minTI (hc : X.calm = true) (hu : X.A.units + 64 < cLine) : CallR X (.builtin "min") (rMinTI X.K) := by
  intro pins s σ H vs us Q I r h
  obtain ⟨a, ns, rfl, hs, hne, q⟩ := h
  obtain ⟨its, rv, hl, _⟩ := I.tuple hs
  rw [Vals.ref1 r]
  cases ns with
  | nil => exact absurd hne (Nat.lt_irrefl 0)
  | cons x xs =>
    have hr : ReadsAll s.heap its.toArray.toList (PyData.int x :: xs.map PyData.int) [] := readsAll_ints rv
    refine PySem.W.min_tuple_data (I.ok.hd hc) hl hr (alikeAll_ints (x :: xs)) (by rw [show PyData.int x :: xs.map PyData.int = (x :: xs).map PyData.int from rfl, depthAll_ints]; omega) fun i v h' tk bs _ hv hk => ?_
    rw [PySem.W.minD_ints] at hv
    obtain ⟨m1, m2⟩ := foldl_min x xs
    cases hv
    exact ⟨.int _, H, I.kept hk, ⟨_, rfl⟩, q _ m1 m2⟩
end
end L2

/-! ### str(data), and calls of defs that show data, where nothing is being shown -/
namespace L2
open PySem PySem.Spec PyProof.Rows
def rStrD (K : PySem.W.Frag) : List V → Hp → VK → Prop := fun xs H Q => ∃ a d, xs = [.ref a] ∧ Dp K H (.ref a) d ∧ SeqAt.shaped d = true ∧ d.showable = true ∧ wt d ≤ sizeLine ∧ Q (.str d.shown) H
theorem cr_strD {X : Cx} {K : PySem.W.Frag} (hK : X.K = K) (hg : X.A.guards = some []) (hu : X.A.units + 67 < cLine) : CallR X (.type "str") (rStrD K) := by
  subst hK
  intro pins s σ H vs us Q I r h
  obtain ⟨a, d, rfl, hd, hs, hw, hz, q⟩ := h
  cases r with
  | cons rv rn =>
    rename_i v us'
    cases rn
    have hs' : (d.canLay0 && decide (d.depth ≤ 64)) = true := hs
    rw [Bool.and_eq_true] at hs'
    have nd := PyData.hasDict_of_canLay d hs'.1
    have dep : d.depth ≤ 64 := of_decide_eq_true hs'.2
    have sz := Nat.le_trans (shown_wt d hw nd) hz
    obtain ⟨as, rd⟩ := Dp.reads I d (.ref a) v hd rv
    cases rv
    exact str_of_reads rd hw (PyData.noDict_hsm nd) hg (by omega) (fun _ _ e => e) (fun h' u tk hk => ⟨.str _, H, I.kept (t' := tk) hk, ⟨u, rfl⟩, q⟩) sz
section
variable {X : Cx} {k : Nat} {f : Addr} {fd : FuncData} {ps : List Str} {sp : Sp} {ds : List Value} {dvs : List V}
theorem run_fnG {pins : List (Addr × Obj)} {σ : St} {H : Hp} {s : Shared} {Q : VK} {us : List Value} {vs : List V} (hgu : X.A.guards = some []) (F : FnG X.prog X.w X.K X.mg X.base k f fd ps sp) (hr : Room k X.A) (hb : Binds X.K fd ps ds) (hd : Vals dvs ds)
    (I : Inv X pins σ H s) (r : Vals vs us) (h : sp (vs ++ dvs) H Q E0) : wpAny (model X.prog X.w) X.A (call (.ref f) us) (EP X pins σ Q) X.xe s := by
  have r2 : Vals (vs ++ dvs) (us ++ ds) := r.append hd
  have hl : (us ++ ds).length = ps.length := by rw [← r2.length]; exact F.len _ _ _ _ h
  refine wpAny_call (codeAny_mono (F.run X.A X.stack s H ⟨us, []⟩ (us ++ ds) (vs ++ dvs) Q E0 hgu hr I.env0 (hb s us I.kIn hl) r2 h) fun r s' hq => ?_)
  cases r with
  | error e => exact pass0 pins σ H s e s' I hq
  | ok fl =>
    cases fl with
    | ret u => exact I.after hq
    | next => exact False.elim hq
    | brk => exact False.elim hq
    | cont => exact False.elim hq
theorem pe_callG {x : Str} {e : Expr} {es : List Expr} {p pos : Pos} {t : TA} (hgu : X.A.guards = some []) (F : FnG X.prog X.w X.K X.mg X.base k f fd ps sp) (hr : Room k X.A) (hg : Gl X x) (hm : X.mg x = some (.ref f)) (hk : PySem.W.keepIn X.K (.ref f) = true) (hb : Binds X.K fd ps ds) (hd : Vals dvs ds)
    (ha : PA X (e :: es) t) (hdb : (x == ("__debug__" : Str)) = false := by decide) (he : starEach (e :: es) X.env = (false, eval e X.env) :: starEach es X.env := by rfl) (hpl : (backTo pos (starEach es X.env)).any (·.1) = false := by rfl) :
    PE X (.Call (.Name x p) (e :: es) [] pos) (tCall sp dvs E0 t) := by
  refine ⟨fun pins s σ H Q I h => ?_⟩
  refine wpAny_Call_Name_kw (ld_glob I hg hm ?_ hdb)
  refine PySem.W.callWith_K (h₀ := X.base) I.ok.mod.kin hk (thn (ha.run pos pins s σ H _ I h) fun us s1 ⟨vs, H1, I1, r, q⟩ => ⟨I1.kIn, ?_⟩) he hpl
  exact run_fnG hgu F hr hb hd I1 r q
end
end L2

/-! ### fe(e, ..), fe an expression that gives one of several defs -/
namespace L2
open PySem PySem.Spec PyProof.Rows
structure HeldX (P : Program) (w : World) (K : PySem.W.Frag) (mg : Str → Option Value) (base : Heap) (CX : CXT) (k : Nat) (f : Addr) (sp : Sp) : Prop where
  ex : ∃ (fd : FuncData) (ps : List Str), FnOk P w K mg base CX k f fd ps sp ∧ PySem.W.keepIn K (.ref f) = true ∧ Binds K fd ps []
def tCallE (S : Addr → Option Sp) (E : St → XK) (tf : TE) (t : TA) : TE := fun σ H Q => tf σ H fun y H1 => ∃ f sp, y = V.ref f ∧ S f = some sp ∧ t σ H1 fun vs H2 => sp vs H2 Q (E σ)
section
variable {X : Cx} {CX : CXT} {k : Nat} {E : St → XK} {p pos : Pos} {fe e : Expr} {es : List Expr} {tf : TE} {t : TA}
theorem pe_callE {S : Addr → Option Sp} (hf : PE X fe tf) (A : ∀ f sp, S f = some sp → HeldX X.prog X.w X.K X.mg X.base CX k f sp) (hr : Room k X.A) (hx : ∀ σ, PassesAt CX X σ (E σ)) (ha : PA X (e :: es) t)
    (ht : eval (.Call fe (e :: es) [] pos) X.env = (do callWith pos (← eval fe X.env) [] (backTo pos (starEach (e :: es) X.env)) (backToKw pos (keywordEach [] X.env))) := by rfl)
    (he : starEach (e :: es) X.env = (false, eval e X.env) :: starEach es X.env := by rfl) (hpl : (backTo pos (starEach es X.env)).any (·.1) = false := by rfl) : PE X (.Call fe (e :: es) [] pos) (tCallE S E tf t) := by
  refine ⟨fun pins s σ H Q I h => ?_⟩
  refine Call_ (thn (hf.run pins s σ H _ I h) fun u s1 ⟨y, H1, I1, ry, f, sp, ey, hS, q⟩ => ?_) ht
  subst ey
  obtain rfl : u = Value.ref f := ry
  obtain ⟨fd, ps, F, hk, hb⟩ := (A f sp hS).ex
  refine PySem.W.callWith_K (h₀ := X.base) I.ok.mod.kin hk (thn (ha.run pos pins s1 σ H1 _ I1 q) fun us s2 ⟨vs, H2, I2, r, q2⟩ => ⟨I2.kIn, ?_⟩) he hpl
  exact run_fnS F hr hb (hx σ) I2 r q2
end
end L2

/-! ### factorial, comb -/
namespace L2
open PySem PySem.Spec PyProof.Rows
def rFac : List V → Hp → VK → Prop := fun xs H Q => ∃ a : Int, xs = [.int a] ∧ 0 ≤ a ∧ a ≤ 20000 ∧ Q (.int ((Builtin.Math.factorialNat a.toNat : Nat) : Int)) H
theorem cr_fac {X : Cx} : CallR X (.builtin "math.factorial") rFac := by
  intro pins s σ H vs us Q I r h
  obtain ⟨a, rfl, h0, h1, q⟩ := h
  obtain ⟨w1, rfl, t, rfl⟩ := vals1 r
  exact PySem.W.mc_factorial h0 h1 fun _ => ⟨.int _, H, I.tok _, ⟨_, rfl⟩, q⟩
def rComb : List V → Hp → VK → Prop := fun xs H Q => ∃ a b : Int, xs = [.int a, .int b] ∧ 0 ≤ a ∧ 0 ≤ b ∧ a ≤ 18000 ∧ Q (.int (PySem.W.mcComb a b)) H
theorem cr_comb {X : Cx} : CallR X (.builtin "math.comb") rComb := by
  intro pins s σ H vs us Q I r h
  obtain ⟨a, b, rfl, h0, h1, h2, q⟩ := h
  obtain ⟨t, u, rfl⟩ := Vals.int2 r
  have big : (18000 : Int) < 2 ^ 64 := by decide
  exact PySem.W.mc_comb h0 h1 (by omega) (.inr h2) fun _ => ⟨.int _, H, I.tok _, ⟨_, rfl⟩, q⟩
end L2

/-! ### walks of comprehensions with two fors -/
namespace L2
open PySem PySem.Spec PyProof.Rows
theorem walkD_list {K : PySem.W.Frag} {a : Addr} {xs : List V} {H0 : Hp} {Qd : Hp → Prop} {body : V → Hp → (Hp → Prop) → Prop} (Pv : Nat → Hp → Prop) (h0 : Pv 0 H0) (hl : ∀ i H, Pv i H → SqL K H a xs)
    (step : ∀ i x H, xs[i]? = some x → Pv i H → body x H (Pv (i + 1))) (last : ∀ H, Pv xs.length H → Qd H) :
    ∃ W : Nat → Nat → Hp → Prop, (∃ m, W 0 m H0) ∧ ∀ i m H, W i m H → ((Itl K a).stop i H ∧ Qd H) ∨ ((Itl K a).go i H ∧ ∃ Nx : Hp → Prop, (∀ H', Nx H' → ∃ m', m' < m ∧ W (i + 1) m' H') ∧ ∀ x H', (Itl K a).yld i H x H' → body x H' Nx) := by
  refine ⟨fun i m H => i + m = xs.length ∧ Pv i H, ⟨xs.length, Nat.zero_add _, h0⟩, fun i m H ⟨em, p⟩ => ?_⟩
  have sq := hl i H p
  cases m with
  | zero =>
    have e : i = xs.length := em
    exact .inl ⟨⟨xs, sq, by omega⟩, last H (e ▸ p)⟩
  | succ m =>
    have lt : i < xs.length := by omega
    refine .inr ⟨⟨xs, xs[i], sq, List.getElem?_eq_getElem lt⟩, Pv (i + 1), fun H' p' => ⟨m, Nat.lt_succ_self m, by omega, p'⟩, fun x H' ⟨eH, y⟩ => ?_⟩
    rw [eH]
    exact step i x H (y xs sq) p
theorem walkD_range {lo : Int} {n : Nat} {H0 : Hp} {Qd : Hp → Prop} {body : V → Hp → (Hp → Prop) → Prop} (Pv : Nat → Hp → Prop) (h0 : Pv 0 H0)
    (step : ∀ i H, i < n → Pv i H → body (.int (lo + (i : Nat))) H (Pv (i + 1))) (last : ∀ H, Pv n H → Qd H) :
    ∃ W : Nat → Nat → Hp → Prop, (∃ m, W 0 m H0) ∧ ∀ i m H, W i m H → ((Itr lo n).stop i H ∧ Qd H) ∨ ((Itr lo n).go i H ∧ ∃ Nx : Hp → Prop, (∀ H', Nx H' → ∃ m', m' < m ∧ W (i + 1) m' H') ∧ ∀ x H', (Itr lo n).yld i H x H' → body x H' Nx) := by
  refine ⟨fun i m H => i + m = n ∧ Pv i H, ⟨n, Nat.zero_add _, h0⟩, fun i m H ⟨em, p⟩ => ?_⟩
  cases m with
  | zero =>
    have e : i = n := em
    exact .inl ⟨Nat.le_of_eq e.symm, last H (e ▸ p)⟩
  | succ m =>
    have lt : i < n := by omega
    refine .inr ⟨lt, Pv (i + 1), fun H' p' => ⟨m, Nat.lt_succ_self m, by omega, p'⟩, fun x H' ⟨eH, y⟩ => ?_⟩
    rw [eH, y]
    exact step i H lt p
end L2

/-! ### a plain list comprehension over a list within an except suite; defs whose errors have no context -/
namespace HotX
open PySem PySem.Spec PyProof.Rows
variable {prog : Program} {w : World} {A : Around} {E : Value → Shared → Prop} {s : Shared}
theorem list_over_hot {it l x1 : Addr} {i : Nat} {items : Array Value} {Q : Option Value → Shared → Prop} (hot : HotAt A x1 s.heap) (hit : s.heap.IsListIter it l i) (hl : s.heap.IsList l items) (hx : items[i]? = none)
    (hQ : ∀ h', (∀ b o, b ≠ it → s.heap.get? b = some o → h'.get? b = some o) → Q none { s with heap := h' }) : wpAny (model prog w) A (pyNext (.ref it)) Q E s := by
  obtain ⟨oi, gi, ci, di⟩ := id hit
  obtain ⟨ol, gl, _, nl, dl⟩ := hl
  obtain ⟨hh, o1, vs1, g1, d1, c1⟩ := hot
  have ne1 : x1 ≠ it := fun z => by
    rw [z, gi] at g1
    obtain rfl := Option.some.inj g1
    rw [di] at d1
    obtain rfl := Data.fields.inj d1
    exact nomatch (show (some (Value.none) : Option Value) = _ from c1.symm)
  unfold pyNext
  apply wpAny_bind
  apply wpAny_attempt
  apply wpAny_callSpecial?_slot (name := Str.ofString "__next__") hit.typeIs slot_listiter_next
  apply wpAny_call_entry slot_listiter_next hit.typeIs entry_listiter_next ?_ (args_listiter_next _)
  show wpAny _ _ (field (Value.ref it) 0 >>= _) _ _ s
  apply wpAny_bind
  apply wpAny_field gi di (x := Value.ref l) rfl
  show wpAny _ _ (if (Value.ref l == Value.none) = true then _ else _) _ _ s
  rw [if_neg (by exact Bool.false_ne_true)]
  show wpAny _ _ (field (Value.ref it) 1 >>= _) _ _ s
  apply wpAny_bind
  apply wpAny_field gi di (x := Value.int i 0) rfl
  show wpAny _ _ (seqItems? (Value.ref l) >>= _) _ _ s
  apply wpAny_bind
  apply wpAny_seqItems gl dl
  simp only [Int.toNat_natCast, hx]
  apply wpAny_bind
  apply wpAny_rule
  apply wpAny_bind
  apply wpAny_setField gi di (by simp)
  show wpAny _ _ (newExc (Value.type "StopIteration") [] >>= _) _ _ _
  apply wpAny_bind
  simp only [newExc, newTuple]
  apply wpAny_bind
  apply wpAny_newObj_type (hd := by size_fits)
  apply wpAny_bind
  apply wpAny_of_eq (a := Value.none) (by first | rfl | exact rfl)
  apply wpAny_newObj_type (hd := by size_fits)
  have k1 : (s.heap.update it (Obj.mapFields fun x => x.setIfInBounds 0 Value.none)).get? x1 = some o1 := (Heap.get?_update_other _ _ ne1.symm).trans g1
  have k2 : ∀ o o' : Obj, (((s.heap.update it (Obj.mapFields fun x => x.setIfInBounds 0 Value.none)).push o).push o').get? x1 = some o1 := fun o o' => Heap.get?_push_of_some _ (Heap.get?_push_of_some _ k1)
  have k3 := fun o o' => Heap.lt_size (k2 o o')
  refine raiseNew_hot (A := A.in1) (x1 := x1) ⟨hh, o1, vs1, k2 _ _, d1, c1⟩ (Nat.ne_of_lt (Heap.lt_size (Heap.get?_push_of_some _ k1))) (Heap.get?_push_size _ rfl) rfl (by first | (simp; done) | (simp; omega)) ?_
  apply wpAny_bind
  refine wpAny_isInstance (b := true) (T := "StopIteration") ⟨_, Heap.get?_update_self _ (Heap.get?_push_size _ rfl) rfl, rfl⟩ isSubtype_stop (wpAny_pure (hQ _ fun b o nb e => ?_))
  have e1 := (Heap.get?_update_other s.heap (Obj.mapFields fun x => x.setIfInBounds 0 Value.none) (Ne.symm nb)).trans e
  have e2 := Heap.get?_push_of_some { cls := Value.type "tuple", data := Data.seq #[] } e1
  rw [Heap.get?_update_other _ _ (Nat.ne_of_gt (Heap.lt_size e2))]
  exact Heap.get?_push_of_some _ e2
end HotX
namespace L2
open PySem PySem.Spec PyProof.Rows HotX
/-- the except suite's own exception stands, its context is None -/
def HotS (X : Cx) : Prop := ∃ p : Addr × Obj, p ∈ X.pn ∧ X.A.handled = some (.ref p.1) ∧ ∃ vs : Array Value, p.2.data = .fields vs ∧ vs[2]? = some .none
/-- [e for y in xs], e without effect: f of each item -/
def tLcMap (K : PySem.W.Frag) (tl : TE) (g : TG) (te : TE) (vs : List Nat) : TE := fun σ H Q => tl σ H fun x H1 => ∃ (a : Addr) (xs : List V) (f : V → V), x = .ref a ∧ SqL K H1 a xs ∧ xs.length < sizeLine ∧
  (∀ y ∈ xs, ∀ H2 : Hp, g y (wipe σ vs) H2 fun σ2 H3 => wipe σ2 vs = wipe σ vs ∧ te σ2 H3 fun z H4 => z = f y ∧ H4 = H2) ∧ ∀ D, H1 D = none → Q (.ref D) (upd H1 D (.lst (xs.map f)))
theorem pe_lcMap {X : Cx} {elt tg iter : Expr} {scope : Scope} {own : List (Str × Nat)} {pos : Pos} {tl : TE} {g : TG} {te : TE} (hotX : HotS X) (nd : X.N.Nodup) (walked : PE X iter tl) (okb : BlkOk X.N X.env.scope scope own)
    (pgAll : ∀ (s : Shared) (H : Hp) (C : Addr) (cl : List (Str × Addr)) (fp : List Addr), PG (X.blk s H scope (compEnvC scope cl C X.env) fp) tg g)
    (peAll : ∀ (s : Shared) (H : Hp) (C : Addr) (cl : List (Str × Addr)) (fp : List Addr), PE (X.blk s H scope (compEnvC scope cl C X.env) fp) elt te)
    (fold : ∀ x, foldedSetIterable iter X.env x = pure x := by intro _; rfl) : PE X (.ListComp elt [⟨tg, iter, [], 0⟩] scope pos) (tLcMap X.K tl g te (own.map (·.2))) := by
  refine ⟨fun pins s σ H Q I h => ?_⟩
  have frees : ∀ y ∈ scope.names, y.2 = .free → ∃ c, X.env.cells.lookup y.1 = some c := fun y hy e => (okb.free y hy e).elim (fun k => I.ok.has _ (.inl k)) (fun k => I.ok.has _ (.inr k))
  rw [eval_ListComp]
  refine wpAny_comprehension_free (use := none) rfl fold (closure_ok frees) okb.kind (fun y hy e => by rw [okb.uniq y hy, e]) (thn (walked.run pins s σ H _ I h) fun itv s1 gone => ?_)
  obtain ⟨x, H1, I1, rx, a, xs, f, rfl, sq, big, each, q⟩ := gone
  cases rx
  obtain ⟨its, vals, plain, _⟩ := I1.list sq
  have lenV : xs.length = its.length := vals.length
  refine wpAny_pyIter_list plain.isList ?_
  -- the iterator
  have I2 : Inv X pins σ H1 { s1 with heap := s1.heap.push { cls := .type "list_iterator", data := .fields #[.ref a, .int 0 0] } } := I1.kept (t' := s1.toks) fun b o e => Heap.get?_push_of_some _ e
  have fpI := I1.fpOk (H' := H1) (Nat.le_refl s1.heap.objs.size) (I1.hok.fresh (Nat.le_refl _))
  have itr : (s1.heap.push { cls := .type "list_iterator", data := .fields #[.ref a, .int 0 0] }).IsListIter s1.heap.objs.size a 0 := ⟨_, Heap.get?_push_size _ rfl, rfl, rfl⟩
  have plain2 : PlainL (s1.heap.push { cls := .type "list_iterator", data := .fields #[.ref a, .int 0 0] }) a its.toArray := by
    obtain ⟨o, n, e, r⟩ := plain
    exact ⟨o, n, Heap.get?_push_of_some _ e, r⟩
  have lt2 : s1.heap.objs.size < (s1.heap.push { cls := .type "list_iterator", data := .fields #[.ref a, .int 0 0] }).objs.size := by
    rw [Heap.size_push]
    exact Nat.lt_succ_self _
  generalize eit : s1.heap.objs.size = it at itr lt2 fpI ⊢
  generalize es2 : ({ s1 with heap := s1.heap.push { cls := .type "list_iterator", data := .fields #[.ref a, .int 0 0] } } : Shared) = s2 at I2 ⊢
  have itr : s2.heap.IsListIter it a 0 := by rw [← es2]; exact itr
  have plain2 : PlainL s2.heap a its.toArray := by rw [← es2]; exact plain2
  have lt2 : it < s2.heap.objs.size := by rw [← es2]; exact lt2
  clear es2 eit
  -- the new list
  apply wpAny_newObj_type (T := "list") (hd := by show 0 ≤ sizeLine; exact Nat.zero_le _)
  apply newEnv_comp
  have nD : H1 s2.heap.objs.size = none := I2.hok.fresh (Nat.le_refl _)
  have ne0 : it ≠ s2.heap.objs.size := Nat.ne_of_lt lt2
  have I3 : Inv X pins σ (upd H1 s2.heap.objs.size (.lst [])) { s2 with heap := s2.heap.push { cls := .type "list", data := .seq ([] : List Value).toArray } } :=
    I2.laid (t' := s2.toks) (fun b o e => Heap.get?_push_of_some _ e) (Nat.le_refl _) ⟨Nat.zero_le _, [], 0, .nil, Heap.get?_push_size _ rfl⟩
  have itr3 : (s2.heap.push { cls := .type "list", data := .seq ([] : List Value).toArray }).IsListIter it a 0 := by
    obtain ⟨o, e, c, d⟩ := itr
    exact ⟨o, Heap.get?_push_of_some _ e, c, d⟩
  have lt3 : it < (s2.heap.push { cls := .type "list", data := .seq ([] : List Value).toArray }).objs.size := by
    rw [Heap.size_push]
    exact Nat.lt_succ_of_lt lt2
  generalize s2.heap.objs.size = D at nD ne0 I3 ⊢
  have fp3 : FpOk X pins (upd H1 D (.lst [])) it := ⟨by rw [upd_ne ne0]; exact fpI.1, fpI.2⟩
  generalize es3 : ({ s2 with heap := s2.heap.push { cls := .type "list", data := .seq ([] : List Value).toArray } } : Shared) = s3 at I3 ⊢
  have itr3 : s3.heap.IsListIter it a 0 := by rw [← es3]; exact itr3
  have lt3 : it < s3.heap.objs.size := by rw [← es3]; exact lt3
  have ed : s3.drawn = s2.drawn ∧ s3.gens = s2.gens ∧ s3.toks = s2.toks ∧ s3.os = s2.os := by rw [← es3]; exact ⟨rfl, rfl, rfl, rfl⟩
  have frs3 : ∀ b ∈ [it], FpOk X pins (upd H1 D (.lst [])) b ∧ b < s3.heap.objs.size := fun b hb => by rw [List.mem_singleton.mp hb]; exact ⟨fp3, lt3⟩
  have I4 := block_start I3 okb nd frs3
  obtain ⟨hp, hpn, hah, hvs, hfd, hnn⟩ := hotX
  have pin3 := I3.pin hp (List.mem_append_left _ hpn)
  have nostk : hp.1 ∉ frs X.stack := fun hm => (List.mem_cons.mp (I3.stkSub hp.1 hm)).elim pin3.2.2.1 pin3.2.2.2.1
  have noit : hp.1 ≠ it := fp3.2.2.2.2.2 hp (List.mem_append_left _ hpn)
  clear es3
  have pg0 := pgAll s3 (upd H1 D (.lst [])) s3.heap.objs.size (cellsFrom (s3.heap.objs.size + 1) scope.names (cloFrom X.env.cells scope.names [])) [it]
  have pe0 := peAll s3 (upd H1 D (.lst [])) s3.heap.objs.size (cellsFrom (s3.heap.objs.size + 1) scope.names (cloFrom X.env.cells scope.names [])) [it]
  let ce := compEnvC scope (cellsFrom (s3.heap.objs.size + 1) scope.names (cloFrom X.env.cells scope.names [])) s3.heap.objs.size X.env
  have locs : ce.locals = s3.heap.objs.size := rfl
  have noC : upd H1 D (.lst []) s3.heap.objs.size = none := I3.hok.fresh (Nat.le_refl _)
  have fpC := I3.fpOk (H' := upd H1 D (.lst [])) (Nat.le_refl s3.heap.objs.size) noC
  have neDC : s3.heap.objs.size ≠ D := fun z => by
    rw [z, upd_same] at noC
    exact nomatch noC
  have noC1 : H1 s3.heap.objs.size = none := by
    rw [upd_ne neDC] at noC
    exact noC
  show codeAny _ _ (.compStart (.ListComp elt [⟨tg, iter, [], 0⟩] scope pos) 0 (.ref it) (.ref D) ce) (compPost (model X.prog X.w) X.A X.xe none (EP X pins σ Q) (.ref D) s3.heap.objs.size) _
  have itr4 : (pushCells (s3.heap.push { cls := .type "dict", data := .dict #[] }) scope.names).IsListIter it a 0 := by
    obtain ⟨o, e, c, d⟩ := itr3
    exact ⟨o, pushCells_keeps _ _ _ _ (Heap.get?_push_of_some _ e), c, d⟩
  generalize es4 : ({ s3 with heap := pushCells (s3.heap.push { cls := .type "dict", data := .dict #[] }) scope.names } : Shared) = s4 at I4 ⊢
  have itr4 : s4.heap.IsListIter it a 0 := by rw [← es4]; exact itr4
  clear es4
  have twice : ∀ (o o' : HO), upd (upd H1 D o) D o' = upd H1 D o' := fun o o' => by
    funext b
    by_cases e : b = D
    · rw [e, upd_same, upd_same]
    · rw [upd_ne e, upd_ne e, upd_ne e]
  have oldKept : ∀ o : HO, Same H1 (upd H1 D o) := fun o b u e => by rw [upd_ne (ne_of_none e nD)]; exact e
  have itFree : ∀ o : HO, upd H1 D o it = none := fun o => by rw [upd_ne ne0]; exact fpI.1
  have hotAt : ∀ {σ5 : St} {H5 : Hp} {s5 : Shared}, Inv (X.blk s3 (upd H1 D (.lst [])) scope ce [it]) [] σ5 H5 s5 → HotAt X.A hp.1 s5.heap := fun I5 =>
    ⟨hah, hp.2, hvs, I5.base.keep hp.1 hp.2 pin3.1 pin3.2.1 nostk (fun hm => noit (List.mem_singleton.mp hm)), hfd, hnn⟩
  have fixed : ∀ {σ5 : St} {H5 : Hp} {s5 : Shared}, Inv (X.blk s3 (upd H1 D (.lst [])) scope ce [it]) [] σ5 H5 s5 → H5 it = none → FpOk (X.blk s3 (upd H1 D (.lst [])) scope ce [it]) [] H5 it := fun I5 hn =>
    ⟨hn, (I5.ok.exf it List.mem_cons_self).1, I5.ok.exfs it List.mem_cons_self, .inl List.mem_cons_self, fun x c e => (I5.ok.exf it List.mem_cons_self).2 x c e, fun p hp => nomatch hp⟩
  have main : codeAny (model X.prog X.w) X.A (.compLoop (.ListComp elt [⟨tg, iter, [], 0⟩] scope pos) 0 (.ref it) (.ref D) ce) (compPost (model X.prog X.w) X.A X.xe none (EP X pins σ Q) (.ref D) s3.heap.objs.size) s4 := by
    refine compLoop_any (fun n s' => ∃ i, n = xs.length - i ∧ i ≤ xs.length ∧ Inv (X.blk s3 (upd H1 D (.lst [])) scope ce [it]) [] (wipe σ (own.map (·.2))) (upd H1 D (.lst ((xs.take i).map f))) s' ∧ s'.heap.IsListIter it a i) ?_ xs.length ⟨0, rfl, Nat.zero_le _, I4, itr4⟩
    rintro n s5 ⟨i, rfl, hi, I5, it5⟩
    obtain ⟨its5, vals5, plain5, _⟩ := I5.list (show SqL X.K _ a xs from (oldKept _).seq sq)
    obtain ⟨f0, f1, f2, f3, f4, f5⟩ := fixed I5 (itFree _)
    have len5 : xs.length = its5.length := vals5.length
    by_cases c : i < xs.length
    · obtain ⟨u, hu, ru⟩ := vals5.get (List.getElem?_eq_getElem c)
      refine wpAny_pyNext_list_item it5 plain5.isList (x := u) (by simpa using hu) fun h' next sb => ?_
      have I6 := I5.turned (h' := h') (t' := s5.toks) (fun b o hb e => (sb.2 b hb).trans e) f0 f1 f3 f4 f5
      obtain ⟨oi, ei, ci, di⟩ := next
      refine go_of (s := { s5 with heap := h' }) ei ci di (by decide) ?_
      have I6p := I6.pinned (fp := [it]) (fun b hb => by rw [List.mem_singleton.mp hb]; exact fixed I6 (itFree _)) (fun b hb => by rw [List.mem_singleton.mp hb]; exact ⟨oi, ei, fun v z => by rw [di] at z; cases z⟩)
      refine thnF (pg0.run _ _ _ _ xs[i] u _ I6p ru (each _ (List.getElem_mem c) _)) fun _ s7 ⟨σ7, H7, I7, hw, q7⟩ => ?_
      refine wpAny_tests_nil ?_
      rw [if_pos rfl]
      refine thnF (pe0.run _ s7 σ7 H7 _ I7 q7) fun z s8 ⟨yv, H8, I8, r8, ez, eH⟩ => ?_
      subst ez eH
      refine app_ok (X := X.blk s3 (upd H1 D (.lst [])) scope ce [it]) I8 upd_same (by rw [List.length_map, List.length_take]; omega) r8 fun s9 I9 => ?_
      have pinned := (I9.pin (it, oi) (List.mem_append_right _ (List.mem_append_right _ (mem_pinsAt List.mem_cons_self ei)))).1
      refine ⟨xs.length - (i + 1), by omega, i + 1, rfl, c, ?_, ⟨oi, pinned, ci, di⟩⟩
      have I10 := (I9.unpinned (pins := [])).weak (σ' := wipe σ (own.map (·.2))) (by rw [← hw, wipe_length]) fun j v e => by
        rw [← hw] at e
        exact (wipe_some e).1
      rw [twice, show (xs.take i).map f ++ [f xs[i]] = (xs.take (i + 1)).map f by rw [List.take_succ, List.getElem?_eq_getElem c, List.map_append]; rfl] at I10
      exact I10
    · obtain rfl : i = xs.length := by omega
      refine list_over_hot (hotAt I5) it5 plain5.isList (by simp; omega) fun h' kept => ?_
      have I6 := I5.turned (h' := h') (t' := s5.toks) kept f0 f1 f3 f4 f5
      have I7 : Inv X pins σ _ _ := I3.call' (ch := [it]) I6.os I6.base I6.hok I6.bare fun b hb => by
        have z := (frs3 b hb).1
        exact ⟨z.2.2.2.1, z.2.1, z.2.2.2.2.1, z.2.2.2.2.2⟩
      obtain ⟨m, hns, _⟩ := I6.loc
      obtain ⟨_, c1, c2, c3, c4, c5⟩ := fpC
      refine ⟨m, hns, fun h2 sb => ⟨.ref D, _, I7.turned (t' := s5.toks) (fun b o hb e => (sb.2 b hb).trans e) ?_ c1 c3 c4 c5, rfl, ?_⟩⟩
      · rw [upd_ne neDC]
        exact noC1
      · rw [List.take_length]
        exact q D nD
  exact codeAny_compStart_list main (wpAny_pyIter_listiter itr4 main)
end L2
namespace L2
open PySem PySem.Spec PyProof.Rows
/-- a def whose errors have no context -/
theorem Fun.okXN {P : Program} {w : World} {K : PySem.W.Frag} {mg : Str → Option Value} {base : Heap} {x qual : Str} {st : Stmt} {f : Addr} {fd : FuncData} {N ps : List Str} {k : Nat} {sp : Sp} (F : Fun K x qual st f fd) (S : FnScope N ps (defScope st))
    (len : ∀ vs H Q E, sp vs H Q E → vs.length = ps.length)
    (body : ∀ (cdv : Value) (A : Around) (outer : List Env) (s : Shared) (H : Hp) (vs : List V) (Q : VK) (E : XK), Room k (A.deeper (envOfC qual (defScope st) s.heap.objs.size f cdv)) → sp vs H Q E →
      ∃ t, PSs (cxOf (L2N.CX P w) P w K mg base N qual (defScope st) f cdv A outer s H E) (defBody st) t ∧ t { nx := fun _ H' => Q .non H', rt := Q } (start N vs) H) : FnOk P w K mg base (L2N.CX P w) (k + 1) f fd ps sp := by
  obtain ⟨_, _, _, _, _, _, _, _, _, rfl, known, coded⟩ := F.ex
  exact fn_of known coded S len fun A outer s H vs Q E room hsp => body _ A outer s H vs Q E room hsp
/-- what an except suite knows -/
theorem hotS_of {X : Cx} {a : Addr} {oe : Obj} {pn : List (Addr × Obj)} {cls : Value} {d : Option Addr} (hz : L2N.Zn cls d oe) (hf : ∃ vs, oe.data = .fields vs) : HotS (X.suite a ((a, oe) :: pn)) := by
  obtain ⟨vs, e⟩ := hf
  exact ⟨(a, oe), List.mem_cons_self, rfl, vs, e, hz.2.2 vs e⟩
end L2
namespace L2
open PySem PySem.Spec PyProof.Rows
theorem passLN {X : Cx} : Passes (L2N.CX X.prog X.w) X E0 := fun _ _ _ _ _ _ _ h => by
  obtain ⟨_, _, _, _, _, _, _, _, _, _, _, _, no⟩ := h
  exact no.elim
theorem takes0N {X : Cx} : L2N.Takes X (fun _ _ _ _ => False) := fun _ _ h => by
  obtain ⟨_, _, _, _, _, _, _, _, _, _, _, _, _, _, _, _, no⟩ := h
  exact no.elim
end L2
namespace L2
open PySem PySem.Spec PyProof.Rows
theorem pe_lcMapK {X : Cx} {K : PySem.W.Frag} {elt tg iter : Expr} {scope : Scope} {own : List (Str × Nat)} {pos : Pos} {tl : TE} {g : TG} {te : TE} (hK : X.K = K) (nd : X.N.Nodup) (walked : PE X iter tl) (okb : BlkOk X.N X.env.scope scope own)
    (pgAll : ∀ (s : Shared) (H : Hp) (C : Addr) (cl : List (Str × Addr)) (fp : List Addr), PG (X.blk s H scope (compEnvC scope cl C X.env) fp) tg g)
    (peAll : ∀ (s : Shared) (H : Hp) (C : Addr) (cl : List (Str × Addr)) (fp : List Addr), PE (X.blk s H scope (compEnvC scope cl C X.env) fp) elt te) (hotX : HotS X)
    (fold : ∀ x, foldedSetIterable iter X.env x = pure x := by intro _; rfl) : PE X (.ListComp elt [⟨tg, iter, [], 0⟩] scope pos) (tLcMap K tl g te (own.map (·.2))) := by
  subst hK
  exact pe_lcMap hotX nd walked okb pgAll peAll fold
end L2

/-! ### a def that is called, within an except suite, with the exception that the suite holds -/
namespace L2
open PySem PySem.Spec PyProof.Rows
structure FnE (P : Program) (w : World) (K : PySem.W.Frag) (mg : Str → Option Value) (base : Heap) (k : Nat) (f : Addr) (fd : FuncData) (ps : List Str) (sp : Addr → Value → Option Addr → Sp) : Prop where
  len : ∀ a cls d vs H Q E, sp a cls d vs H Q E → vs.length = ps.length
  run : ∀ (A : Around) (outer : List Env) (s : Shared) (H : Hp) (args : Args) (us : List Value) (vs : List V) (Q : VK) (E : XK) (a : Addr) (oe : Obj) (cls : Value) (d : Option Addr), L2H.RoomH k A → L2H.Hot1 A (a, oe) → L2H.PinOk outer H s (a, oe) → Zc cls d oe → Env0 P w K mg base A outer s H →
    BindsTo s fd args (ps.zip us) → Vals vs us → sp a cls d vs H Q E → codeAny (model P w) A (.call (.ref f) args) (CR CX0 outer P w H s Q E) s
theorem Fun.okE {P : Program} {w : World} {K : PySem.W.Frag} {mg : Str → Option Value} {base : Heap} {x qual : Str} {st : Stmt} {f : Addr} {fd : FuncData} {N ps : List Str} {k : Nat} {sp : Addr → Value → Option Addr → Sp} (F : Fun K x qual st f fd) (S : FnScope N ps (defScope st))
    (len : ∀ a cls d vs H Q E, sp a cls d vs H Q E → vs.length = ps.length)
    (hbody : ∀ (cdv : Value) (A : Around) (outer : List Env) (s : Shared) (H : Hp) (vs : List V) (Q : VK) (E : XK) (a : Addr) (oe : Obj) (cls : Value) (d : Option Addr), Zc cls d oe → (∃ vs, oe.data = .fields vs) →
      L2H.RoomH k (A.deeper (envOfC qual (defScope st) s.heap.objs.size f cdv)) → sp a cls d vs H Q E →
      ∃ t, PSs (L2H.cxH CX0 P w K mg base N qual (defScope st) f cdv A outer s H E (a, oe)) (defBody st) t ∧ t { nx := fun _ H' => Q .non H', rt := Q } (start N vs) H) : FnE P w K mg base (k + 1) f fd ps sp := by
  obtain ⟨oc, od, kV, doc, pm, an, cdv, ct, osl, rfl, lk, hcd⟩ := F.ex
  refine ⟨len, fun A outer s H args us vs Q E a oe cls d hr hot hpin hz e0 hb r hsp => ?_⟩
  have keep := fun b o (e : base.get? b = some o) => (e0.bs b o e).1
  have inK : K.In s.heap := e0.mod.kin.keeps keep
  refine codeAny_call_function hr.depth (inK _ _ lk) rfl S.co S.gen rfl (PySem.W.codeRec_of inK hcd) (hb _ _ _ _ ?_)
  refine wpAny_newFunctionEnv_cells S.kind (fun ⟨n, v⟩ hy => ?_) fun env he s1 xx => ?_
  · exact (S.par n (List.of_mem_zip hy).1).elim .inl fun q => .inr ⟨q, PySem.W.cellsFrom_some _ _ _ (.inl q)⟩
  · subst he
    refine ⟨(e0.mod.nolimit.keeps keep).keeps xx.toInCall.keep, codeAny_func ?_⟩
    obtain ⟨t, ht, hq⟩ := hbody cdv A outer s H vs Q E a oe cls d hz ⟨_, hot.2.choose_spec.1⟩ (hr.deeper _) hsp
    have I := L2H.inv_startH (CX := CX0) (E := E) S hpin e0 (len _ _ _ _ _ _ _ hsp) r xx
    refine wpAny_mono (ht.run [] s1 _ H _ I hq) (fun fl s' hs => ?_) fun e s' hs => hs
    have fin : ∀ {σ' : St} {H' : Hp} {v : V} {u : Value}, Inv (L2H.cxH CX0 P w K mg base N qual (defScope st) f cdv A outer s H E (a, oe)) [] σ' H' s' → RelV v u → Q v H' → CE outer P w H s Q u s' :=
      fun {σ' H' v u} J rv q => ⟨v, H', J.os, J.bare, J.base, J.hok, rv, q⟩
    rcases fl with _ | _ | _ | u
    · obtain ⟨σ', H', J, q⟩ := hs
      exact fin (v := V.non) (u := Value.none) J rfl q
    · exact hs.elim fun _ z => z.elim fun _ z => z.2.elim
    · exact hs.elim fun _ z => z.elim fun _ z => z.2.elim
    · obtain ⟨v, σ', H', J, rv, q⟩ := hs
      exact fin J rv q
theorem roomE_of {k : Nat} {A : Around} (r : Room k A) (v : Option Value) : L2H.RoomH k (A.mark v) := ⟨r.dp, r.un⟩
def tCallX1 (sp : Addr → Value → Option Addr → Sp) (a : Addr) (cls : Value) (d : Option Addr) (t : TA) : TE := fun σ H Q => t σ H fun vs H1 => sp a cls d vs H1 Q E0
theorem pe_callX1 {X : Cx} {k : Nat} {f : Addr} {fd : FuncData} {ps : List Str} {sp : Addr → Value → Option Addr → Sp} {x : Str} {q pos : Pos} {e : Expr} {es : List Expr} {t : TA} {a : Addr} {oe : Obj} {cls : Value} {d : Option Addr} {pn : List (Addr × Obj)}
    (F : FnE X.prog X.w X.K X.mg X.base k f fd ps sp) (hr : Room k X.A) (hz : L2N.Zn cls d oe) (hf : ∃ vs, oe.data = .fields vs) (hg : Gl X x) (hm : X.mg x = some (.ref f)) (hk : PySem.W.keepIn X.K (.ref f) = true) (hb : Binds X.K fd ps [])
    (ha : PA (X.suite a ((a, oe) :: pn)) (e :: es) t) (hdb : (x == ("__debug__" : Str)) = false := by decide) (he : starEach (e :: es) X.env = (false, eval e X.env) :: starEach es X.env := by rfl) (hpl : (backTo pos (starEach es X.env)).any (·.1) = false := by rfl) :
    PE (X.suite a ((a, oe) :: pn)) (.Call (.Name x q) (e :: es) [] pos) (tCallX1 sp a cls d t) := by
  refine ⟨fun pins s σ H Q I h => ?_⟩
  refine wpAny_Call_Name_kw (ld_glob (X := X.suite a ((a, oe) :: pn)) I hg hm ?_ hdb)
  refine PySem.W.callWith_K (h₀ := X.base) I.ok.mod.kin hk (thn (ha.run pos pins s σ H _ I h) fun us s1 ⟨vs, H1, I1, r, q⟩ => ⟨I1.kIn, ?_⟩) he hpl
  have hl : us.length = ps.length := by rw [← r.length]; exact F.len _ _ _ _ _ _ _ q
  have b := hb s1 us I1.kIn (by rw [List.append_nil]; exact hl)
  rw [List.append_nil] at b
  have P1 := I1.pin (a, oe) (List.mem_append_left _ List.mem_cons_self)
  have hpin : L2H.PinOk (X.suite a ((a, oe) :: pn)).stack H1 s1 (a, oe) := ⟨P1.1, P1.2.1, fun hm => (List.mem_cons.mp (I1.stkSub a hm)).elim P1.2.2.1 P1.2.2.2.1, P1.2.2.2.2⟩
  have hot : L2H.Hot1 (X.suite a ((a, oe) :: pn)).A (a, oe) := by
    obtain ⟨vs, e⟩ := hf
    exact ⟨rfl, vs, e, hz.2.2 vs e⟩
  refine wpAny_call (codeAny_mono (F.run (X.suite a ((a, oe) :: pn)).A _ s1 H1 ⟨us, []⟩ us vs Q E0 a oe cls d (roomE_of hr _) hot hpin ⟨hz.1, hz.2.1⟩ I1.env0 b r q) fun r s' hq => ?_)
  cases r with
  | error e => exact hq.elim
  | ok fl =>
    cases fl with
    | ret u => exact I1.after hq
    | next => exact False.elim hq
    | brk => exact False.elim hq
    | cont => exact False.elim hq
/-- isinstance of that exception, in that def -/
def rIsEP (K : PySem.W.Frag) (cls : Value) (d : Option Addr) (a : Addr) : List V → Hp → VK → Prop := fun xs H Q => ∃ D : Addr, cls = .ref D ∧ d = none ∧ ExcC K D ∧ rIsE K D a xs H Q
theorem call_isEP {X : Cx} {a : Addr} {oe : Obj} {cls : Value} {d : Option Addr} (hp : (a, oe) ∈ X.pn) (hz : Zc cls d oe) (hf : ∃ vs, oe.data = .fields vs) : CallR X (.builtin "isinstance") (rIsEP X.K cls d a) := by
  intro pins s σ H xs us Q I r h
  obtain ⟨D, rfl, rfl, C, c, cv, b, rfl, hcv, e, q⟩ := h
  cases r with
  | cons rx rr =>
    cases rr with
    | cons rt rr =>
      cases rr
      cases rx
      have ec := hcv _ rt
      subst ec
      obtain ⟨hget, _⟩ := I.pin (a, oe) (List.mem_append.mpr (.inl hp))
      obtain ⟨vs, hv⟩ := hf
      have J : PySem.W.InstAt s.heap a oe D none := by
        obtain ⟨oc, od, oda, osl⟩ := oe
        obtain ⟨h1, h2⟩ := hz
        dsimp only at h1 h2 hv
        subst h1 h2 hv
        exact ⟨hget, rfl, rfl, trivial⟩
      exact PySem.W.kia_one (PySem.W.handS_kitx_exc C.hg C.hk C.hs C.hd C.ha C.hn C.ht C.hm) I.kIn J e (fun z => nomatch z) fun tk => ⟨.bl b, H, I.kept (t' := tk) fun _ _ z => z, rfl, q⟩
theorem call_isEH {P : Program} {w : World} {K : PySem.W.Frag} {mg : Str → Option Value} {base : Heap} {N : List Str} {qual : Str} {scope : Scope} {f : Addr} {cdv : Value} {A : Around} {outer : List Env} {s : Shared} {H : Hp} {E : XK} {a : Addr} {oe : Obj} {cls : Value} {d : Option Addr} (hz : Zc cls d oe) (hf : ∃ vs, oe.data = .fields vs) :
    CallR (L2H.cxH CX0 P w K mg base N qual scope f cdv A outer s H E (a, oe)) (.builtin "isinstance") (rIsEP K cls d a) :=
  call_isEP List.mem_cons_self hz hf
end L2

/-! ### sorted(list of data) -/
namespace L2
open PySem PySem.Spec PyProof.Rows
def rSortG (K : PySem.W.Frag) : List V → Hp → VK → Prop := fun vs H Q => ∃ (β : Type) (enc : β → PyData) (R : V → β → Prop) (a : Addr) (xs : List V) (bs : List β), vs = [V.ref a] ∧ SqL K H a xs ∧ (∀ x ∈ xs, ∃ t, x = V.ref t) ∧ Paired R xs bs ∧ Paired (fun x b => Dp K H x (enc b)) xs bs ∧
  PySem.W.AllAlike (bs.map enc) ∧ PySem.W.Sortable (bs.map enc) ∧ (∀ b ∈ bs, (enc b).depth ≤ 60) ∧ ∀ ys p, Paired R ys (bs.mergeSort (PySem.W.dataLe false enc)) → H p = none → Q (.ref p) (upd H p (.lst ys))
theorem each_of {β : Type} {R : V → β → Prop} : ∀ {us : List Value} {bs : List β}, Paired R (us.map backV) bs → PySem.W.EachIs (fun u b => R (backV u) b) us bs
  | [], _, h => by
    cases h
    exact .nil
  | u :: us, _, h => by
    cases h with
    | cons a t => exact .cons a (each_of t)
theorem of_each {β : Type} {R : V → β → Prop} : ∀ {us : List Value} {bs : List β}, PySem.W.EachIs (fun u b => R (backV u) b) us bs → Paired R (us.map backV) bs
  | _, _, .nil => .nil
  | _, _, .cons a t => .cons a (of_each t)
theorem each_and {α β : Type} {R S : α → β → Prop} : ∀ {us : List α} {bs : List β}, PySem.W.EachIs R us bs → PySem.W.EachIs S us bs → PySem.W.EachIs (fun u b => R u b ∧ S u b) us bs
  | _, _, .nil, .nil => .nil
  | _, _, .cons a t, .cons b u => .cons ⟨a, b⟩ (each_and t u)
theorem each_ref {β : Type} : ∀ {us : List Value} {bs : List β}, us.length = bs.length → (∀ u ∈ us, ∃ a, u = Value.ref a) → PySem.W.EachIs (fun u (_ : β) => ∃ a, u = Value.ref a) us bs
  | [], [], _, _ => .nil
  | u :: us, b :: bs, h, k => .cons (k u List.mem_cons_self) (each_ref (Nat.succ.inj h) fun v hv => k v (List.mem_cons_of_mem _ hv))
theorem each_mem {β : Type} {R : Value → β → Prop} {p : Value → Prop} (h : ∀ u b, R u b → p u) : ∀ {us : List Value} {bs : List β}, PySem.W.EachIs R us bs → ∀ u ∈ us, p u
  | _, _, .nil, u, hu => nomatch hu
  | _, _, .cons a t, u, hu => by
    rcases List.mem_cons.mp hu with rfl | hu
    · exact h _ _ a
    · exact each_mem h t u hu
theorem each_mono {β : Type} {R S : Value → β → Prop} (h : ∀ u b, R u b → S u b) : ∀ {us : List Value} {bs : List β}, PySem.W.EachIs R us bs → PySem.W.EachIs S us bs
  | _, _, .nil => .nil
  | _, _, .cons a t => .cons (h _ _ a) (each_mono h t)
theorem each_reads {X : Cx} {pins : List (Addr × Obj)} {σ : St} {H : Hp} {s : Shared} (I : Inv X pins σ H s) {β : Type} {enc : β → PyData} : ∀ {xs : List V} {us : List Value} {bs : List β}, Vals xs us → Paired (fun x b => Dp X.K H x (enc b)) xs bs → PySem.W.EachIs (fun v b => ∃ as, PySem.Reads s.heap v (enc b) as) us bs
  | _, _, _, .nil, .nil => .nil
  | _, _, _, .cons r t, .cons a u => .cons (Dp.reads I _ _ _ a r) (each_reads I t u)
section
variable {X : Cx}
theorem cr_sortedG (hu : X.A.units + 64 < cLine) : CallR X (.builtin "sorted") (rSortG X.K) := by
  intro pins s σ H vs us Q I r h
  obtain ⟨β, enc, R, a, xs, bs, rfl, hs, hx, pR, pD, al, so, dp, q⟩ := h
  obtain ⟨its, rv, hl, hz⟩ := I.list hs
  obtain ⟨u, rfl, ru⟩ := vals1 r
  obtain rfl : u = Value.ref a := ru
  obtain ⟨e1, e2⟩ := refs_back rv hx
  have er := each_reads I rv pD
  have lx : its.length = bs.length := by rw [← rv.length, pR.length]
  have eR : PySem.W.EachIs (fun u b => R (backV u) b) its bs := each_of (e1 ▸ pR)
  have eA := each_and eR (each_ref lx e2)
  refine PySem.W.sorted_data (enc := enc) hl.isList eA er al so (by rw [← lx, ← rv.length]; exact hz) (fun b hb => by have := dp b hb; omega) fun out ho eo => ?_
  obtain ⟨c, hc⟩ := PyProof.Rows.sortedAll_at s.heap its out.toArray
  have h3 : ∀ u ∈ out, ∃ a, u = Value.ref a := each_mem (fun _ _ h => h.2) eo
  have pO : Paired R (out.map backV) (bs.mergeSort (PySem.W.dataLe false enc)) := of_each (each_mono (fun _ _ h => h.1) eo)
  refine ⟨.ref (s.heap.objs.size + 1), upd H (s.heap.objs.size + 1) (.lst (out.map backV)), I.laid (t' := s.toks) (fun b o e => PyProof.Rows.sortedAll_old e) (Nat.le_succ _) ⟨?_, out, c, vals_back h3, hc⟩, rfl, q _ _ pO (I.hok.fresh (Nat.le_succ _))⟩
  rw [List.length_map, ho, ← lx, ← rv.length]
  exact hz
end
end L2

/-! ### min(list of data) -/
namespace L2
open PySem PySem.Spec PyProof.Rows
def rMinG (K : PySem.W.Frag) : List V → Hp → VK → Prop := fun vs H Q => ∃ (β : Type) (enc : β → PyData) (a : Addr) (xs : List V) (b : β) (bs : List β), vs = [V.ref a] ∧ SqL K H a xs ∧ (∀ x ∈ xs, ∃ t, x = V.ref t) ∧ Paired (fun x b => Dp K H x (enc b)) xs (b :: bs) ∧
  PySem.W.AlikeAll ((b :: bs).map enc) ∧ (∀ b' ∈ b :: bs, (enc b').depth ≤ 60 ∧ (enc b').canLay0 = true) ∧ ∀ (i : Nat) x c, xs[i]? = some x → (b :: bs)[i]? = some c → enc c = PySem.W.minD (enc b) (bs.map enc) → Q x H
theorem reads_all {X : Cx} {pins : List (Addr × Obj)} {σ : St} {H : Hp} {s : Shared} (I : Inv X pins σ H s) {β : Type} {enc : β → PyData} : ∀ {xs : List V} {us : List Value} {bs : List β}, Vals xs us → Paired (fun x b => Dp X.K H x (enc b)) xs bs → ∃ as, ReadsAll s.heap us (bs.map enc) as
  | _, _, _, .nil, .nil => ⟨_, .nil⟩
  | _, _, _, .cons r t, .cons a u => by
    obtain ⟨as, h⟩ := Dp.reads I _ _ _ a r
    obtain ⟨bs, g⟩ := reads_all I t u
    exact ⟨_, .cons h g⟩
theorem depth_all_le : ∀ {ds : List PyData} {n : Nat}, (∀ d ∈ ds, d.depth ≤ n) → PyData.depthAll ds ≤ n
  | [], n, _ => by simp [PyData.depthAll]
  | d :: ds, n, h => by
    have h1 := h d List.mem_cons_self
    have h2 := depth_all_le fun e he => h e (List.mem_cons_of_mem _ he)
    simp only [PyData.depthAll]
    omega
section
variable {X : Cx}
theorem cr_minG (hc : X.calm = true) (hu : X.A.units + 64 < cLine) : CallR X (.builtin "min") (rMinG X.K) := by
  intro pins s σ H vs us Q I r h
  obtain ⟨β, enc, a, xs, b, bs, rfl, hs, hx, pD, al, dp, q⟩ := h
  obtain ⟨its, rv, hl, hz⟩ := I.list hs
  obtain ⟨u, rfl, ru⟩ := vals1 r
  obtain rfl : u = Value.ref a := ru
  obtain ⟨as, er⟩ := reads_all I rv pD
  have hd : PyData.depthAll ((b :: bs).map enc) ≤ 60 := depth_all_le fun d hd => by
    obtain ⟨c, hc, rfl⟩ := List.mem_map.mp hd
    exact (dp c hc).1
  have er : ReadsAll s.heap its.toArray.toList (enc b :: bs.map enc) as := by simpa using er
  refine PySem.W.min_list_data (I.ok.hd hc) hl.isList er al (by show X.A.units + 1 + _ < _; have : PyData.depthAll (enc b :: bs.map enc) ≤ 60 := hd; omega) fun i v h' tk cs hi rd hk => ?_
  have hi : its[i]? = some v := by simpa using hi
  have li := (List.getElem?_eq_some_iff.mp hi).1
  have lx : i < xs.length := by rw [rv.length]; exact li
  obtain ⟨x, ex⟩ : ∃ x, xs[i]? = some x := ⟨_, List.getElem?_eq_getElem lx⟩
  obtain ⟨t, rfl⟩ := hx x (List.mem_of_getElem? ex)
  obtain ⟨c, ec, dc⟩ := paired_get pD ex
  have rx : RelV (.ref t) v := by
    obtain ⟨v', e, r⟩ := rv.get ex
    rw [hi] at e
    obtain rfl := Option.some.inj e
    exact r
  have J : Inv X pins σ H { s with heap := h', toks := tk } := I.kept hk
  obtain ⟨as2, r2⟩ := Dp.reads J _ _ _ (show Dp X.K H (.ref t) (enc c) from dc) rx
  have e : enc c = PySem.W.minD (enc b) (bs.map enc) := (Reads.unique r2 _ _ rd).1
  exact ⟨.ref t, H, J, rx, q i _ c ex ec e⟩
end
end L2

/-! ### t.index(x), flat items -/
namespace L2
open PySem PySem.Spec PyProof.Rows
section
variable {X : Cx}
def rTIndex (K : PySem.W.Frag) : V → List V → Hp → VK → Prop := fun x xs H Q => ∃ (a : Addr) (ys : List V) (y : V) (j : Nat) (z : V), x = V.ref a ∧ xs = [y] ∧ SqT K H a ys ∧ flatV y = true ∧ ys.all flatV = true ∧ ys[j]? = some z ∧ eqV z y = true ∧
  (∀ (m : Nat) (z' : V), m < j → ys[m]? = some z' → eqV z' y = false) ∧ Q (.int (j : Nat)) H
theorem mt_tindex : MtR X "tuple.index" (rTIndex X.K) := by
  intro pins s σ H x xs v us Q I rx rxs h
  obtain ⟨a, ys, y, j, z, rfl, rfl, hs, fy, fys, hz, hzj, hno, q⟩ := h
  cases rx
  cases rxs with
  | cons ry rt =>
    rename_i uy ut
    cases rt
    obtain ⟨its, rv, pl, hz0⟩ := I.tuple hs
    obtain ⟨⟨cls, dd, dt, sl⟩, ho, hc, n, hd⟩ := pl
    simp only at hc hd
    subst hc
    subst hd
    obtain ⟨u, hu, ru⟩ := rv.get hz
    obtain ⟨hjl, hje⟩ := List.getElem?_eq_some_iff.mp hu
    have hvl := rv.length
    have hj : j < its.toArray.size := by simpa using hjl
    refine call_meets PySem.F.slot_tuple_index ⟨_, ho, rfl⟩ PySem.F.entry_tuple_index (PySem.F.args_tuple_index_2 _ _)
      (TI.tuple_indexAt a its.toArray n dd sl uy (eqU y) j hj ?_ ?_) ⟨ho, fun u' hu' => mem_eqAt ry fy rv fys u' (by simpa using hu'), ?_⟩
    · have e1 : its.toArray[j] = u := by simpa using hje
      rw [e1, eqU_of ru (flat_at fys hz)]
      exact hzj
    · intro m hm hmj
      have hml : m < its.length := by simpa using hm
      have hmy : m < ys.length := by omega
      have hy' : ys[m]? = some ys[m] := List.getElem?_eq_getElem hmy
      obtain ⟨u2, hu2, ru2⟩ := rv.get hy'
      obtain ⟨_, hme⟩ := List.getElem?_eq_some_iff.mp hu2
      have e1 : its.toArray[m] = u2 := by simpa using hme
      rw [e1, eqU_of ru2 (flat_at fys hy')]
      exact hno m _ hmj hy'
    · exact ⟨.int (j : Nat), H, I.tok _, ⟨_, rfl⟩, q⟩
end
/-- tuple(a list): a tuple that has no dict of its own -/
theorem call_tuple_ofF {X : Cx} : CallR X (.type "tuple") (fun xs H Q => ∃ p ys, xs = [V.ref p] ∧ SqL X.K H p ys ∧ ∀ (l : Addr) (o : Obj), o.dict = none → H l = none → Q (.ref l) (upd H l (.frz o (.tup ys)))) := by
  intro pins s σ H xs us Q I r h
  obtain ⟨p, ys, rfl, hq, q⟩ := h
  obtain ⟨u, rfl, rx⟩ := vals1 r
  cases rx
  obtain ⟨its, r', pl, hz⟩ := I.list hq
  have hlen := r'.length
  refine call_tuple_list pl.isList (fun h' kp => ?_) (by simp only [List.size_toArray] <;> omega)
  have I1 : Inv X pins σ H { s with heap := h' } := I.kept (t' := s.toks) kp
  have I2 : Inv X pins σ (upd H h'.objs.size (.frz { cls := .type "tuple", data := .seq its.toArray } (.tup ys))) { s with heap := h'.push { cls := .type "tuple", data := .seq its.toArray } } :=
    I1.laid (t' := s.toks) (fun b o e => Heap.get?_push_of_some _ e) (Nat.le_refl _) (show ObjOk X.prog X.w _ _ _ (.frz _ (.tup ys)) from ⟨Heap.get?_push_size _ (by rfl), hz, its, r', IsTup.new _ _⟩)
  exact ⟨.ref h'.objs.size, _, I2, rfl, q _ _ rfl (I1.hok.fresh (Nat.le_refl _))⟩
def tTI (K : PySem.W.Frag) (to : TE) (t : TA) : TE := fun σ H Q => to σ H fun x H1 => (∃ (p : Addr) (o : Obj) (ys : List V), x = .ref p ∧ H1 p = some (.frz o (.tup ys)) ∧ o.dict = none) ∧ t σ H1 fun xs H2 => rTIndex K x xs H2 Q
theorem pe_tindexK {X : Cx} {K : PySem.W.Frag} {o e : Expr} {to : TE} {t : TA} {apos cpos : Pos} (hK : X.K = K) (ho : PE X o to) (ha : PA X [e] t)
    (hb : attributeBase o "index" X.env (eval o X.env) = eval o X.env := by rfl)
    (hf : ((backTo cpos (starEach [e] X.env)).all (fun x => !x.1) && (backToKw cpos (keywordEach [] X.env)).all (fun x => x.1.isSome) && decide ([e].length + ([] : List Keyword).length + (if ([] : List Keyword).isEmpty then 0 else 1) < 30)) = true := by rfl)
    (hl : (apos.endLine == cpos.line) = true := by rfl) (hs : starEach [e] X.env = (false, eval e X.env) :: starEach [] X.env := by rfl) (hp : (backTo cpos (starEach [] X.env)).any (·.1) = false := by rfl) :
    PE X (.Call (.Attribute o "index" apos) [e] [] cpos) (tTI K to t) := by
  subst hK
  refine ⟨fun pins s σ H Q I h => ?_⟩
  refine wpAny_Call_method_late hb hf hl rfl (thn (ho.run pins s σ H _ I h) fun v s1 ⟨x, H1, I1, r1, ty, q1⟩ => ?_)
  obtain ⟨p, ob, ys, rfl, hp1, hd⟩ := ty
  cases r1
  obtain ⟨hg, _, its, _, ob', hg', hc, _⟩ := I1.hok p _ hp1
  obtain rfl : ob = ob' := Option.some.inj (hg.symm.trans hg')
  refine ⟨"tuple", "tuple.index", PySem.F.plainAttrs_tuple, PySem.F.slot_tuple_index, PySem.F.type_tuple_index, ⟨ob, hg, hc⟩, fun a e => ?_, ?_⟩
  · cases e
    exact ⟨ob, hg, hd⟩
  · have hA := ha.run cpos pins s1 σ H1 _ I1 q1
    rw [hs] at hA ⊢
    refine Calls.callWith_builtin (by show (false || (backTo cpos (starEach [] X.env)).any (·.1)) = false; rw [hp] <;> rfl) (Calls.evalArgs_plain ?_)
    exact thn hA fun us s2 ⟨vs, H2, I2, r2, q2⟩ => mt_tindex pins s2 σ H2 (.ref p) vs _ us Q I2 rfl r2 q2
end L2

namespace T
open PySem PySem.Spec PyProof.Rows L2
def SameBut (a : Addr) (H H' : Hp) : Prop := ∀ b o, b ≠ a → H b = some o → H' b = some o
theorem SameBut.refl (a : Addr) (H : Hp) : SameBut a H H := fun _ _ _ h => h
theorem SameBut.trans {a : Addr} {H H1 H2 : Hp} (x : SameBut a H H1) (y : SameBut a H1 H2) : SameBut a H H2 := fun b o n h => y b o n (x b o n h)
theorem SameBut.upd {a : Addr} {H : Hp} {o : HO} : SameBut a H (upd H a o) := fun b u n h => by rw [upd_ne n]; exact h
theorem SameBut.new {a p : Addr} {H : Hp} {o : HO} (h : H p = none) : SameBut a H (L2.upd H p o) := fun b u n e => by rw [upd_ne (ne_of_none e h)]; exact e
theorem Same.but {a : Addr} {H H' : Hp} (h : Same H H') : SameBut a H H' := fun b o _ e => h b o e
theorem same_upd {H : Hp} {p : Addr} {o : HO} (h : H p = none) : Same H (upd H p o) := fun b x e => by
  rw [upd_ne (ne_of_none e h)]
  exact e
theorem upd_self {H : Hp} {a : Addr} {o : HO} (h : H a = some o) : upd H a o = H := by
  funext b
  unfold upd
  by_cases e : b = a
  · rw [if_pos e, e, h]
  · rw [if_neg e]
theorem Same.mut {H H' : Hp} {p : Addr} {o : HO} (e : Same H H') (h : H p = none) : Same H (upd H' p o) := fun a u ha => by
  rw [upd_ne (ne_of_none ha h)]
  exact e a u ha
theorem map_int_get {ns : List Int} {i : Nat} {y : V} (hi : (ns.map V.int)[i]? = some y) : ∃ z, ns[i]? = some z ∧ y = V.int z := by
  rw [List.getElem?_map] at hi
  cases e : ns[i]? with
  | none =>
    rw [e] at hi
    cases hi
  | some z =>
    rw [e] at hi
    exact ⟨z, rfl, (Option.some.inj hi).symm⟩
theorem small_of {n : Nat} (h : n ≤ 100000) : n < sizeLine := Nat.lt_of_le_of_lt h (by decide)
structure ErrC (K : PySem.W.Frag) (mg : Str → Option Value) (x : Str) (C : Addr) : Prop where
  gc : mg x = some (.ref C)
  xC : PySem.W.excIn K C [.type "ValueError", .type "Exception", .type "BaseException", .type "object"] "ValueError.__new__" = true
  kc : PySem.W.keepIn K (.ref C) = true
  bc : PySem.W.subIn K (.ref C) (.type "BaseException") = some true
  tc : PySem.W.typeIn K (.ref C) = some (.type "type")
/-- a def whose defaults stand somewhere (called with all its arguments) -/
structure FunA (K : PySem.W.Frag) (x qual : Str) (st : Stmt) (f : Addr) (fd : FuncData) : Prop where
  ex : ∃ (oc : Value) (od : Option Addr) (dV kV doc pm : Value) (an : Option Addr) (cdv ct : Value) (osl : Array (Option Value)),
    fd = PySem.W.fnOf x qual (defArgs st) (defBody st) (defScope st) dV kV doc pm an cdv ct ∧ K.lookup f = some ⟨oc, od, .func fd, osl⟩ ∧ PySem.W.codeIn K cdv qual = true
  kp : PySem.W.keepIn K (.ref f) = true
section
variable {P : Program} {w : World} {K : PySem.W.Frag} {mg : Str → Option Value} {base : Heap}
theorem FunA.okX {x qual : Str} {st : Stmt} {f : Addr} {fd : FuncData} {N ps : List Str} {k : Nat} {sp : Sp} (F : FunA K x qual st f fd) (S : FnScope N ps (defScope st)) (len : ∀ vs H Q E, sp vs H Q E → vs.length = ps.length)
    (hbody : ∀ (cdv : Value) (A : Around) (outer : List Env) (s : Shared) (H : Hp) (vs : List V) (Q : VK) (E : XK), Room k (A.deeper (envOfC qual (defScope st) s.heap.objs.size f cdv)) → sp vs H Q E →
      ∃ t, PSs (cxOf (L2.CX P w) P w K mg base N qual (defScope st) f cdv A outer s H E) (defBody st) t ∧ t { nx := fun _ H' => Q .non H', rt := Q } (start N vs) H) : FnOk P w K mg base (L2.CX P w) (k + 1) f fd ps sp := by
  obtain ⟨oc, od, dV, kV, doc, pm, an, cdv, ct, osl, rfl, lk, hcd⟩ := F.ex
  exact fn_of lk hcd S len fun A outer s H vs Q E hr hsp => hbody cdv A outer s H vs Q E hr hsp
end
theorem if_pos_of {b : Bool} {A B : Prop} (h : b = true) (x : A) : if b = true then A else B := by
  rw [if_pos h]
  exact x
theorem if_neg_of {b : Bool} {A B : Prop} (h : ¬ b = true) (x : B) : if b = true then A else B := by
  rw [if_neg h]
  exact x
theorem sqT_same {K : PySem.W.Frag} {H H' : Hp} {a : Addr} {xs : List V} (e : Same H H') (h : SqT K H a xs) : SqT K H' a xs := by
  rcases h with (h | ⟨o, h⟩) | h
  · exact .inl (.inl (e _ _ h))
  · exact .inl (.inr ⟨o, e _ _ h⟩)
  · exact .inr h
section
variable {P : Program} {w : World} {K : PySem.W.Frag} {mg : Str → Option Value} {base : Heap}
theorem room64 {k : Nat} {A : Around} (hr : Room k A) : A.units + 64 < cLine := by have := hr.un; omega
theorem room65 {k : Nat} {A : Around} (hr : Room k A) : A.units + 65 < cLine := by have := hr.un; omega
theorem inV_primes {p : Int} : inV (.int p) [.int 2, .int 3, .int 5, .int 7, .int 11, .int 13, .int 17, .int 19, .int 23, .int 29, .int 31] = inV (.int p) (primes.map V.int) := rfl
end
theorem sqT_but {K : PySem.W.Frag} {H H' : Hp} {r a : Addr} {xs : List V} (e : SameBut r H H') (n : a ≠ r) (h : SqT K H a xs) : SqT K H' a xs := by
  rcases h with (h | ⟨o, h⟩) | h
  · exact .inl (.inl (e _ _ n h))
  · exact .inl (.inr ⟨o, e _ _ n h⟩)
  · exact .inr h
theorem at_tab {xs : List Int} {i : Int} (h0 : 0 ≤ i) (h1 : i < xs.length) : atI (xs.map V.int) i = some (.int (xs.getD i.toNat 0)) := by
  obtain ⟨n, rfl⟩ := Int.eq_ofNat_of_zero_le h0
  have hn : n < xs.length := by omega
  refine atI_nat ?_
  rw [List.getElem?_map, List.getElem?_eq_getElem hn, List.getD_eq_getElem?_getD, show ((n : Nat) : Int).toNat = n from rfl, List.getElem?_eq_getElem hn]
  rfl
theorem mod_lt8 (n : Int) {m : Int} (h : 0 < m) : 0 ≤ n % m ∧ n % m < m := ⟨Int.emod_nonneg _ (by omega), Int.emod_lt_of_pos _ h⟩
def wtab : List Int := [0, 0, 0, 2, 3, 5, 7, 31]
theorem wtab_in : ∀ k : Nat, k < 8 → wtab.getD k 0 = 0 ∨ (wtab.getD k 0 ≠ 0 ∧ inV (.int (wtab.getD k 0)) (primes.map V.int) = true ∧ 2 ≤ wtab.getD k 0) := by decide
/-! ### isinstance of the error that an except suite holds -/
def rIsE' (K : PySem.W.Frag) (cls : Value) (d : Option Addr) (a : Addr) : List V → Hp → VK → Prop := fun xs H Q => ∃ D : Addr, cls = .ref D ∧ d = none ∧ ExcC K D ∧ rIsE K D a xs H Q
theorem call_isE' {X : Cx} {a : Addr} {oe : Obj} {pn : List (Addr × Obj)} {cls : Value} {d : Option Addr} (hz : Zc cls d oe) (hf : ∃ vs, oe.data = .fields vs) : CallR (X.suite a ((a, oe) :: pn)) (.builtin "isinstance") (rIsE' X.K cls d a) := by
  intro pins s σ H xs us Q I r h
  obtain ⟨D, rfl, rfl, C, h⟩ := h
  exact call_isE C hz hf pins s σ H xs us Q I r h
theorem pe_indexK {X : Cx} {K : PySem.W.Frag} {o e : Expr} {to : TE} {t : TA} {apos cpos : Pos} (hK : X.K = K) (ho : PE X o to) (ha : PA X [e] t)
    (hb : attributeBase o "index" X.env (eval o X.env) = eval o X.env := by rfl)
    (hf : ((backTo cpos (starEach [e] X.env)).all (fun x => !x.1) && (backToKw cpos (keywordEach [] X.env)).all (fun x => x.1.isSome) && decide ([e].length + ([] : List Keyword).length + (if ([] : List Keyword).isEmpty then 0 else 1) < 30)) = true := by rfl)
    (hl : (apos.endLine == cpos.line) = true := by rfl) (hs : starEach [e] X.env = (false, eval e X.env) :: starEach [] X.env := by rfl) (hp : (backTo cpos (starEach [] X.env)).any (·.1) = false := by rfl) :
    PE X (.Call (.Attribute o "index" apos) [e] [] cpos) (tBM K "list" (rIndex K) to t) := by
  subst hK
  exact pe_bm PySem.F.plainAttrs_list PySem.F.slot_list_index PySem.F.type_list_index mt_index ho ha hb hf hl hs hp
/-! ### values without depth -/
inductive Val1 (H : Hp) : V → PyData → Prop
  | non : Val1 H .non .none
  | bl (b : Bool) : Val1 H (.bl b) (.bool b)
  | str (x : Str) : Val1 H (.str x) (.str x)
  | pair {t : Addr} {u v : Int} : H t = some (.tup [.int u, .int v]) → Val1 H (.ref t) (.tuple [.int u, .int v])
theorem Val1.dp {K : PySem.W.Frag} {H : Hp} {x : V} {d : PyData} (h : Val1 H x d) : Dp K H x d := by
  cases h with
  | non => exact .non
  | bl b => exact .bl b
  | str x => exact .str x
  | pair h => exact .tup (.inl (.inl h)) (.cons (.int _) (.cons (.int _) .nil))
theorem Val1.but {H H' : Hp} {D : Addr} {ys : List V} {x : V} {d : PyData} (s : SameBut D H H') (hD : H D = some (.lst ys)) (h : Val1 H x d) : Val1 H' x d := by
  cases h with
  | non => exact .non
  | bl b => exact .bl b
  | str x => exact .str x
  | pair h => exact .pair (s _ _ (ne_of h hD (fun z => nomatch z)) h)
theorem Val1.same {H H' : Hp} {x : V} {d : PyData} (s : Same H H') (h : Val1 H x d) : Val1 H' x d := by
  cases h with
  | non => exact .non
  | bl b => exact .bl b
  | str x => exact .str x
  | pair h => exact .pair (s _ _ h)
theorem vals1_dp {K : PySem.W.Frag} {H : Hp} : ∀ {xs : List V} {ds : List PyData}, Paired (Val1 H) xs ds → DpAll K H xs ds
  | _, _, .nil => .nil
  | _, _, .cons a b => .cons a.dp (vals1_dp b)
theorem paired_snoc {α β : Type} {F : α → β → Prop} {a : α} {b : β} (h : F a b) : ∀ {l : List α} {m : List β}, Paired F l m → Paired F (l ++ [a]) (m ++ [b])
  | _, _, .nil => .cons h .nil
  | _, _, .cons x y => .cons x (paired_snoc h y)

/-- the first def of a class -/
def inCls : Stmt → Stmt
  | .ClassDef _ _ _ body _ _ _ _ _ _ _ => body.getD 0 (.Pass ⟨0, 0, 0, 0⟩)
  | s => s
theorem pt_truthK {X : Cx} {K : PySem.W.Frag} {a : Expr} {ta : TE} (hK : X.K = K) (ha : PE X a ta) (he : ∀ whole, isTrue a X.env whole = (do let v ← whole; standAt a.pos; holding [v] (truthy v))) :
    PT X a (fun σ H Q => ta σ H fun x H' => ∃ k, TruV K x H' k ∧ Q k H') := by
  subst hK
  exact pt_truth ha he
theorem op_in_seqK {X : Cx} {K : PySem.W.Frag} (hK : X.K = K) : OpR X (compareOp .In) (rIn K false) := by
  subst hK
  exact op_in_seq
theorem op_notIn_seqK {X : Cx} {K : PySem.W.Frag} (hK : X.K = K) : OpR X (compareOp .NotIn) (rIn K true) := by
  subst hK
  exact op_notIn_seq
theorem pi_listK {X : Cx} {K : PySem.W.Frag} {tg e : Expr} {te : TE} (hK : X.K = K) (he : PE X e te) : PI X tg e (iList K te) := by
  subst hK
  exact pi_list he

def topS (i : Nat) : Stmt := PySem.Challenge.pw_threadworth_k68_arrangements_signs_and_f.main.body.getD i (.Pass ⟨0, 0, 0, 0⟩)
abbrev s_is_size_ : Stmt := topS 12
theorem sc_is_size_ : FnScope ["n", "m"] ["n", "m"] (defScope s_is_size_) := ⟨rfl, rfl, rfl, by decide +kernel, rfl, by decide +kernel, by decide +kernel⟩
abbrev s_is_diagram : Stmt := topS 13
theorem sc_is_diagram : FnScope ["diagram", "n", "m", "blocks", "points", "firsts", "block", "point"] ["diagram"] (defScope s_is_diagram) := ⟨rfl, rfl, rfl, by decide +kernel, rfl, by decide +kernel, by decide +kernel⟩
abbrev s_check_diagram : Stmt := topS 14
theorem sc_check_diagram : FnScope ["diagram"] ["diagram"] (defScope s_check_diagram) := ⟨rfl, rfl, rfl, by decide +kernel, rfl, by decide +kernel, by decide +kernel⟩
abbrev s_check_family : Stmt := topS 15
theorem sc_check_family : FnScope ["family"] ["family"] (defScope s_check_family) := ⟨rfl, rfl, rfl, by decide +kernel, rfl, by decide +kernel, by decide +kernel⟩
abbrev s_is_in : Stmt := topS 16
theorem sc_is_in : FnScope ["family", "diagram", "n", "_", "blocks", "block"] ["family", "diagram"] (defScope s_is_in) := ⟨rfl, rfl, rfl, by decide +kernel, rfl, by decide +kernel, by decide +kernel⟩
abbrev s_is_block_of_ : Stmt := topS 17
theorem sc_is_block_of_ : FnScope ["family", "n", "block"] ["family", "n", "block"] (defScope s_is_block_of_) := ⟨rfl, rfl, rfl, by decide +kernel, rfl, by decide +kernel, by decide +kernel⟩
abbrev s_is_strand_ : Stmt := topS 18
theorem sc_is_strand_ : FnScope ["n", "block"] ["n", "block"] (defScope s_is_strand_) := ⟨rfl, rfl, rfl, by decide +kernel, rfl, by decide +kernel, by decide +kernel⟩
abbrev s_is_block_size_ : Stmt := topS 19
theorem sc_is_block_size_ : FnScope ["family", "size"] ["family", "size"] (defScope s_is_block_size_) := ⟨rfl, rfl, rfl, by decide +kernel, rfl, by decide +kernel, by decide +kernel⟩
abbrev s_check_places_ : Stmt := topS 22
theorem sc_check_places_ : FnScope ["places"] ["places"] (defScope s_check_places_) := ⟨rfl, rfl, rfl, by decide +kernel, rfl, by decide +kernel, by decide +kernel⟩
abbrev s_arrangement : Stmt := topS 23
theorem sc_arrangement : FnScope ["diagram", "_", "below"] ["diagram"] (defScope s_arrangement) := ⟨rfl, rfl, rfl, by decide +kernel, rfl, by decide +kernel, by decide +kernel⟩
abbrev s_thread : Stmt := topS 24
theorem sc_thread : FnScope ["places"] ["places"] (defScope s_thread) := ⟨rfl, rfl, rfl, by decide +kernel, rfl, by decide +kernel, by decide +kernel⟩
abbrev s_thread_ : Stmt := topS 25
theorem sc_thread_ : FnScope ["places", "n", "k", "place"] ["places"] (defScope s_thread_) := ⟨rfl, rfl, rfl, by decide +kernel, rfl, by decide +kernel, by decide +kernel⟩
abbrev s_sign : Stmt := topS 26
theorem sc_sign : FnScope ["places"] ["places"] (defScope s_sign) := ⟨rfl, rfl, rfl, by decide +kernel, rfl, by decide +kernel, by decide +kernel⟩
abbrev s_sign_ : Stmt := topS 27
theorem sc_sign_ : FnScope ["places"] ["places"] (defScope s_sign_) := ⟨rfl, rfl, rfl, by decide +kernel, rfl, by decide +kernel, by decide +kernel⟩
abbrev s_descents_ : Stmt := topS 28
theorem sc_descents_ : FnScope ["places", "k", "high", "low"] ["places"] (defScope s_descents_) := ⟨rfl, rfl, rfl, by decide +kernel, rfl, by decide +kernel, by decide +kernel⟩
abbrev s_longest_fall : Stmt := topS 29
theorem sc_longest_fall : FnScope ["places"] ["places"] (defScope s_longest_fall) := ⟨rfl, rfl, rfl, by decide +kernel, rfl, by decide +kernel, by decide +kernel⟩
abbrev s_longest_fall_ : Stmt := topS 30
theorem sc_longest_fall_ : FnScope ["places", "longest", "falls", "fall", "k"] ["places"] (defScope s_longest_fall_) := ⟨rfl, rfl, rfl, by decide +kernel, rfl, by decide +kernel, by decide +kernel⟩
abbrev s_goes_on_ : Stmt := topS 31
theorem sc_goes_on_ : FnScope ["places", "fall", "k"] ["places", "fall", "k"] (defScope s_goes_on_) := ⟨rfl, rfl, rfl, by decide +kernel, rfl, by decide +kernel, by decide +kernel⟩
abbrev s_law_number : Stmt := topS 33
theorem sc_law_number : FnScope ["cell"] ["cell"] (defScope s_law_number) := ⟨rfl, rfl, rfl, by decide +kernel, rfl, by decide +kernel, by decide +kernel⟩
abbrev s_law_draws : Stmt := topS 34
theorem sc_law_draws : FnScope ["script", "draws", "cell", "rest", "k", "once", "twice"] ["script"] (defScope s_law_draws) := ⟨rfl, rfl, rfl, by decide +kernel, rfl, by decide +kernel, by decide +kernel⟩
abbrev s_law_next : Stmt := topS 35
theorem sc_law_next : FnScope ["draws"] ["draws"] (defScope s_law_next) := ⟨rfl, rfl, rfl, by decide +kernel, rfl, by decide +kernel, by decide +kernel⟩
abbrev s_law_marked : Stmt := topS 36
theorem sc_law_marked : FnScope ["n", "m", "marks", "known", "blocks", "at", "block"] ["n", "m", "marks"] (defScope s_law_marked) := ⟨rfl, rfl, rfl, by decide +kernel, rfl, by decide +kernel, by decide +kernel⟩
abbrev s_law_marks : Stmt := topS 37
theorem sc_law_marks : FnScope ["diagram", "marks", "number", "point"] ["diagram"] (defScope s_law_marks) := ⟨rfl, rfl, rfl, by decide +kernel, rfl, by decide +kernel, by decide +kernel⟩
abbrev s_law_belongs : Stmt := topS 38
theorem sc_law_belongs : FnScope ["family", "diagram", "n", "m", "blocks", "block", "crossing"] ["family", "diagram"] (defScope s_law_belongs) := ⟨rfl, rfl, rfl, by decide +kernel, rfl, by decide +kernel, by decide +kernel⟩
abbrev s_law_all : Stmt := topS 39
theorem sc_law_all : FnScope ["family", "n", "m", "rows", "j", "longer", "row", "found", "diagram", "label"] ["family", "n", "m"] (defScope s_law_all) := ⟨rfl, rfl, rfl, by decide +kernel, rfl, by decide +kernel, by decide +kernel⟩
abbrev s_law_glued : Stmt := topS 40
theorem sc_law_glued : FnScope ["marks", "pairs", "one", "other", "old", "mark"] ["marks", "pairs"] (defScope s_law_glued) := ⟨rfl, rfl, rfl, by decide +kernel, rfl, by decide +kernel, by decide +kernel⟩
abbrev s_law_kinds : Stmt := topS 41
theorem sc_law_kinds : FnScope ["marks", "kinds", "mark"] ["marks"] (defScope s_law_kinds) := ⟨rfl, rfl, rfl, by decide +kernel, rfl, by decide +kernel, by decide +kernel⟩
abbrev s_law_places : Stmt := topS 42
theorem sc_law_places : FnScope ["draws", "most", "left", "places", "j"] ["draws", "most"] (defScope s_law_places) := ⟨rfl, rfl, rfl, by decide +kernel, rfl, by decide +kernel, by decide +kernel⟩
abbrev s_law_orders : Stmt := topS 43
theorem sc_law_orders : FnScope ["count", "rows", "j", "longer", "row", "place"] ["count"] (defScope s_law_orders) := ⟨rfl, rfl, rfl, by decide +kernel, rfl, by decide +kernel, by decide +kernel⟩
abbrev s_law_thread : Stmt := topS 44
theorem sc_law_thread : FnScope ["places", "n", "at"] ["places"] (defScope s_law_thread) := ⟨rfl, rfl, rfl, by decide +kernel, rfl, by decide +kernel, by decide +kernel⟩
abbrev s_law_descents : Stmt := topS 45
theorem sc_law_descents : FnScope ["places", "total", "at", "place"] ["places"] (defScope s_law_descents) := ⟨rfl, rfl, rfl, by decide +kernel, rfl, by decide +kernel, by decide +kernel⟩
abbrev s_law_falls : Stmt := topS 46
theorem sc_law_falls : FnScope ["places", "found", "at", "fall"] ["places"] (defScope s_law_falls) := ⟨rfl, rfl, rfl, by decide +kernel, rfl, by decide +kernel, by decide +kernel⟩
abbrev s_law_depth : Stmt := topS 47
theorem sc_law_depth : FnScope ["places", "fall"] ["places"] (defScope s_law_depth) := ⟨rfl, rfl, rfl, by decide +kernel, rfl, by decide +kernel, by decide +kernel⟩
abbrev s_law_kind : Stmt := topS 48
theorem sc_law_kind : FnScope ["error", "kinds"] ["error"] (defScope s_law_kind) := ⟨rfl, rfl, rfl, by decide +kernel, rfl, by decide +kernel, by decide +kernel⟩
abbrev s_law_told : Stmt := topS 49
theorem sc_law_told : FnScope ["way", "thing", "error"] ["way", "thing"] (defScope s_law_told) := ⟨rfl, rfl, rfl, by decide +kernel, rfl, by decide +kernel, by decide +kernel⟩
abbrev s_law : Stmt := topS 50
theorem sc_law : FnScope ["script", "draws", "places", "diagram", "depth", "due", "back", "some", "other", "strange", "way", "fall", "at"] ["script"] (defScope s_law) := ⟨rfl, rfl, rfl, by decide +kernel, rfl, by decide +kernel, by decide +kernel⟩
structure SmL (n k : Nat) (D : PyData) : Prop where
  lay : D.canLay0 = true
  dep : D.depth ≤ n
  sho : D.showable = true
  wgt : wt D ≤ k
theorem smL_all {n k : Nat} : ∀ {ds : List PyData}, (∀ D ∈ ds, SmL n k D) → PyData.canLayAll0 ds = true ∧ PyData.depthAll ds ≤ n ∧ PyData.showableAll ds = true ∧ wtAll ds ≤ (k + 2) * ds.length
  | [], _ => ⟨by simp [PyData.canLayAll0], by simp [PyData.depthAll], by simp [PyData.showableAll], by simp [wtAll]⟩
  | D :: ds, h => by
    obtain ⟨h1, h2, h3, h4⟩ := smL_all (ds := ds) fun E hE => h E (List.mem_cons_of_mem _ hE)
    have g := h D List.mem_cons_self
    refine ⟨by simp [PyData.canLayAll0, g.lay, h1], ?_, by simp [PyData.showableAll, g.sho, h3], ?_⟩
    · simp only [PyData.depthAll]
      have := g.dep
      omega
    · simp only [wtAll, List.length_cons, Nat.mul_add]
      have := g.wgt
      omega
theorem smL_list {n k : Nat} {ds : List PyData} (h : ∀ D ∈ ds, SmL n k D) : SmL (n + 1) ((k + 2) * ds.length + 3) (.list ds) := by
  obtain ⟨h1, h2, h3, h4⟩ := smL_all h
  exact ⟨by simp [PyData.canLay0, h1], by simp only [PyData.depth]; omega, by simp [PyData.showable, h3], by simp only [wt]; omega⟩
theorem smL_tuple {n k : Nat} {ds : List PyData} (h : ∀ D ∈ ds, SmL n k D) : SmL (n + 1) ((k + 2) * ds.length + 3) (.tuple ds) := by
  obtain ⟨h1, h2, h3, h4⟩ := smL_all h
  exact ⟨by simp [PyData.canLay0, h1], by simp only [PyData.depth]; omega, by simp [PyData.showable, h3], by simp only [wt]; omega⟩
theorem SmL.shaped {n k : Nat} {D : PyData} (h : SmL n k D) (hn : n ≤ 64) : SeqAt.shaped D = true := by
  show (PyData.canLay0 D && decide (PyData.depth D ≤ 64)) = true
  rw [h.lay, decide_eq_true (Nat.le_trans h.dep hn)]
  rfl
theorem SmL.wide {n k : Nat} {D : PyData} (h : SmL n k D) (hk : k ≤ 16777216) : wt D ≤ sizeLine := by
  rw [sizeLine_eq]
  exact Nat.le_trans h.wgt hk
theorem small_log {i : Int} (h : i.natAbs < 2 ^ 200) : i.natAbs.log2 < 1920 := by
  by_cases e : i.natAbs = 0
  · rw [e]
    decide
  · exact (Nat.log2_lt e).mpr (Nat.lt_of_lt_of_le h (Nat.pow_le_pow_right (by decide) (by decide)))
theorem smL_int {i : Int} (h : i.natAbs < 2 ^ 200) : SmL 0 1921 (.int i) := ⟨by simp [PyData.canLay0], by simp [PyData.depth], by simp [PyData.showable, small_log h], by simp only [wt]; omega⟩
theorem smL_pair {u v : Int} (hu : u.natAbs < 2 ^ 200) (hv : v.natAbs < 2 ^ 200) : SmL 1 4000 (.tuple [.int u, .int v]) := by
  have h := smL_tuple (ds := [.int u, .int v]) (n := 0) (k := 1921) fun D hD => by
    rcases List.mem_cons.mp hD with rfl | hD
    · exact smL_int hu
    · rcases List.mem_cons.mp hD with rfl | hD
      · exact smL_int hv
      · cases hD
  exact ⟨h.lay, h.dep, h.sho, Nat.le_trans h.wgt (by show (1921 + 2) * 2 + 3 ≤ 4000; decide)⟩
theorem ok_n : PyData.strOk ("!n" : Str) = true := by decide +kernel
theorem ok_b : PyData.strOk ("!b" : Str) = true := by decide +kernel
theorem ok_w : PyData.strOk ("!w" : Str) = true := by decide +kernel
theorem rl_n : (reprText ("!n" : Str)).length = 4 := by decide +kernel
theorem rl_b : (reprText ("!b" : Str)).length = 4 := by decide +kernel
theorem rl_w : (reprText ("!w" : Str)).length = 4 := by decide +kernel
theorem smL_n : SmL 1 4000 (.str "!n") := ⟨by simp [PyData.canLay0, ok_n], by simp [PyData.depth], by simp [PyData.showable], by simp only [wt, rl_n]; omega⟩
theorem smL_b : SmL 1 4000 (.str "!b") := ⟨by simp [PyData.canLay0, ok_b], by simp [PyData.depth], by simp [PyData.showable], by simp only [wt, rl_b]; omega⟩
theorem smL_w : SmL 1 4000 (.str "!w") := ⟨by simp [PyData.canLay0, ok_w], by simp [PyData.depth], by simp [PyData.showable], by simp only [wt, rl_w]; omega⟩
theorem smL_non : SmL 1 4000 .none := ⟨by simp [PyData.canLay0], by simp [PyData.depth], by simp [PyData.showable], by simp only [wt]; omega⟩
theorem smL_bool (b : Bool) : SmL 1 4000 (.bool b) := ⟨by simp [PyData.canLay0], by simp [PyData.depth], by simp [PyData.showable], by simp only [wt]; omega⟩

section
variable {P : Program} {w : World} {K : PySem.W.Frag} {mg : Str → Option Value} {base : Heap}
/-! ### _law_number -/
def spPlain : Sp := fun vs H Q _ => ∃ n : Int, vs = [.int n] ∧ Q (.int (if n < 0 then -n else n)) H
theorem ok_plain {f : Addr} {fd : FuncData} (F : Fun K "_law_number" "_law_number" s_law_number f fd) : FnOk P w K mg base CX0 1 f fd ["cell"] spPlain := by
  refine F.ok sc_law_number (fun vs H Q E h => ?_) (fun cdv A outer s H vs Q E hr h => ?_)
  · obtain ⟨n, rfl, _⟩ := h
    rfl
  · obtain ⟨n, rfl, q⟩ := h
    refine ⟨_, (pss_cons (ps_if (pt_cmpR op_lt (pv 0) pe_int (nomark _)) (pss_one (ps_ret (pe_op op_sub pe_int (pv 0)))) pss_nil)
  (pss_one (ps_ret (pv 0))))
    , ?_⟩
    refine ⟨_, rfl, _, _, rfl, rfl, _, rfl, ite2 (fun e => ?_) (fun e => ?_)⟩
    · rw [if_pos (of_decide_eq_true e)] at q
      have q' : Q (.int (0 - n)) H := by
        rw [show (0 : Int) - n = -n by omega]
        exact q
      exact ⟨_, rfl, _, _, rfl, rfl, q'⟩
    · rw [if_neg (fun z => e (decide_eq_true z))] at q
      exact ⟨_, rfl, q⟩
end

section
variable {P : Program} {w : World} {K : PySem.W.Frag} {mg : Str → Option Value} {base : Heap}
/-! ### _law_next -/
def spNext : Sp := fun vs H Q _ => ∃ (a : Addr) (ds : List Int), vs = [.ref a] ∧ H a = some (.lst (ds.map V.int)) ∧ ∀ (n : Int) (ds' : List Int), Q (.int n) (upd H a (.lst (ds'.map V.int)))
theorem ok_next {f : Addr} {fd : FuncData} (F : Fun K "_law_next" "_law_next" s_law_next f fd) : FnOk P w K mg base CX0 1 f fd ["draws"] spNext := by
  refine F.ok sc_law_next (fun vs H Q E h => ?_) (fun cdv A outer s H vs Q E hr h => ?_)
  · obtain ⟨a, ds, rfl, _⟩ := h
    rfl
  · obtain ⟨a, ds, rfl, hL, q⟩ := h
    refine ⟨_, (pss_cons (ps_if (pt_truth (pv 0) (by intro _; rfl)) (pss_one (ps_ret (pe_bm0 PySem.F.plainAttrs_list PySem.F.slot_list_pop PySem.F.type_list_pop mt_pop (pv 0)))) pss_nil)
  (pss_one (ps_ret pe_int)))
    , ?_⟩
    refine ⟨_, rfl, _, .inl ⟨_, .inl (.inl hL), rfl⟩, ite2 (fun e => ?_) (fun e => ?_)⟩
    · have hn : ds ≠ [] := fun z => by subst z; cases e
      have hm : ds.map V.int = ds.dropLast.map V.int ++ [V.int (ds.getLast hn)] := by
        rw [← List.map_singleton, ← List.map_append, List.dropLast_concat_getLast]
      refine ⟨_, rfl, .inl ⟨rfl, _, .inl (.inl hL)⟩, a, _, .int (ds.getLast hn), rfl, rfl, hL, ?_, ?_⟩
      · rw [hm]; simp
      · rw [hm, List.dropLast_concat]
        exact q _ _
    · have := q 0 ds
      rw [upd_self hL] at this
      exact this
end

section
variable {P : Program} {w : World} {K : PySem.W.Frag} {mg : Str → Option Value} {base : Heap}
/-! ### _law_draws -/
def spDraws (K : PySem.W.Frag) : Sp := fun vs H Q _ => ∃ (a : Addr) (ns : List Int), vs = [.ref a] ∧ SqL K H a (ns.map V.int) ∧ ns.length ≤ 63 ∧
  ∀ H' r (ds : List Int), Same H H' → H r = none → H' r = some (.lst (ds.map V.int)) → Q (.ref r) H'
theorem ok_draws {f : Addr} {fd : FuncData} {a_law_number : Addr} {fd_law_number : FuncData} (F : Fun K "_law_draws" "_law_draws" s_law_draws f fd) (z_range : mg "range" = none) (z_int : mg "int" = none)
    (G_law_number : FnOk P w K mg base CX0 1 a_law_number fd_law_number ["cell"] spPlain) (g_law_number : mg "_law_number" = some (.ref a_law_number)) (k_law_number : PySem.W.keepIn K (.ref a_law_number) = true) (b_law_number : Binds K fd_law_number ["cell"] []) :
    FnOk P w K mg base CX0 2 f fd ["script"] (spDraws K) := by
  refine F.ok sc_law_draws (fun vs H Q E h => ?_) (fun cdv A outer s H vs Q E hr h => ?_)
  · obtain ⟨n, _, rfl, _⟩ := h
    rfl
  · obtain ⟨a, ns, rfl, hS, hlen, q⟩ := h
    refine ⟨_, (pss_cons (ps_set (i := 1) sc_law_draws.nd rfl (.inl rfl) (pe_lst pa_nil))
  (pss_cons (ps_for PassesOwn.never rfl (pi_list (pv 0)) (pg_name (i := 2) sc_law_draws.nd rfl (.inl rfl)) (pss_cons (ps_set (i := 3) sc_law_draws.nd rfl (.inl rfl) (pe_call G_law_number (hr.mono (by decide)) rfl g_law_number k_law_number b_law_number .nil pass0 (pa_cons (pv 2) pa_nil)))
  (pss_one (ps_if (pt_cmpR op_ge (pv 3) pe_int (nomark _)) (pss_one (ps_for PassesOwn.never rfl (pi_range1 rfl z_range (pa_cons pe_int pa_nil)) (pg_name (i := 4) sc_law_draws.nd rfl (.inl rfl)) (pss_cons (ps_if (pt_cmpR op_eq (pv 3) pe_int (nomark _)) (pss_one ps_break) pss_nil)
  (pss_cons (ps_expr (pe_bm PySem.F.plainAttrs_list PySem.F.slot_list_append PySem.F.type_list_append mt_append (pv 1) (pa_cons (pe_op op_mod (pe_callTy call_int1 (by rfl) z_int boot_int (pa_cons (pv 3) pa_nil)) pe_int) pa_nil)))
  (pss_one (ps_set (i := 3) sc_law_draws.nd rfl (.inl rfl) (pe_op op_fdiv (pv 3) pe_int))))))) (pss_cons (ps_set (i := 5) sc_law_draws.nd rfl (.inl rfl) (pe_op op_mod (pe_callTy call_int1 (by rfl) z_int boot_int (pa_cons (pe_op op_add (pe_op op_mul (pv 3) pe_int) pe_int) pa_nil)) pe_int))
  (pss_cons (ps_set (i := 6) sc_law_draws.nd rfl (.inl rfl) (pe_op op_mod (pe_callTy call_int1 (by rfl) z_int boot_int (pa_cons (pe_op op_add (pe_op op_mul (pv 5) pe_int) (pv 3)) pa_nil)) pe_int))
  (pss_one (ps_expr (pe_bm PySem.F.plainAttrs_list PySem.F.slot_list_extend PySem.F.type_list_extend mt_extend (pv 1) (pa_cons (pe_lst (pa_cons (pe_op op_mod (pe_callTy call_int1 (by rfl) z_int boot_int (pa_cons (pv 3) pa_nil)) pe_int) (pa_cons (pe_op op_mod (pe_callTy call_int1 (by rfl) z_int boot_int (pa_cons (pv 5) pa_nil)) pe_int) (pa_cons (pe_op op_mod (pe_callTy call_int1 (by rfl) z_int boot_int (pa_cons (pv 6) pa_nil)) pe_int) pa_nil)))) pa_nil))))))))))
  (pss_one (ps_ret (pv 1)))))
    , ?_⟩
    refine ⟨Nat.zero_le _, fun o no => ?_⟩
    have s1 : Same H (upd H o (.lst [])) := same_upd no
    refine ⟨.ref a, rfl, a, rfl, ⟨_, s1.seq hS⟩, for_list (K := K) (a := a) (xs := ns.map V.int) (fun i σ H' => ∃ v2 v3 v4 v5 v6 ds, σ = [some (.ref a), some (.ref o), v2, v3, v4, v5, v6] ∧ Same H H' ∧ H' o = some (.lst (ds.map V.int)) ∧ ds.length ≤ 60 * i)
      ⟨none, none, none, none, none, [], rfl, s1, upd_same, Nat.le_refl _⟩ (fun i σ H' _ ⟨_, _, _, _, _, _, _, sm, _⟩ => sm.seq hS) ?_ ?_⟩
    · rintro i y σ H1 hi ⟨v2, v3, v4, v5, v6, ds, rfl, sm, hL, hl⟩
      have hi63 : i < 63 := by
        have := (List.getElem?_eq_some_iff.mp hi).1
        rw [List.length_map] at this
        omega
      obtain ⟨z, hz, rfl⟩ := map_int_get hi
      refine ⟨_, rfl, z, rfl, ?_⟩
      generalize hr0 : (if z < 0 then -z else z) = r0
      have h0 : 0 ≤ r0 := by
        subst hr0
        split <;> omega
      refine ⟨_, rfl, _, _, rfl, rfl, _, rfl, ite2 (fun e => ?_) (fun e => ?_)⟩
      · refine ⟨60, rfl, by decide, by decide, for_range (lo := 0) (n := 60) (fun j σ H' => ∃ r v4 ds', σ = [some (.ref a), some (.ref o), some (.int z), some (.int r), v4, v5, v6] ∧ 0 ≤ r ∧ Same H H' ∧ H' o = some (.lst (ds'.map V.int)) ∧ ds'.length ≤ 60 * i + j)
          ⟨r0, v4, ds, rfl, h0, sm, hL, hl⟩ ?_ ?_⟩
        · rintro j σ H2 hj ⟨r, v4', ds', rfl, hr0', sm2, hL2, hl2⟩
          refine ⟨_, rfl, rfl, _, rfl, ite2 (fun e1 => ?_) (fun e1 => ?_)⟩
          · exact ⟨_, _, _, _, _, ds', rfl, sm2, hL2, by omega⟩
          · refine ⟨.ref o, rfl, .inl ⟨rfl, _, .inl (.inl hL2)⟩, .int r, rfl, .inl ⟨r, rfl, r, 1000, rfl, rfl, (show (0:Int) < 1000 by decide), o, _, _, rfl, rfl, hL2, ?_, ?_⟩⟩
            · rw [List.length_map]
              exact small_of (by omega)
            · refine ⟨_, rfl, r, 1000, rfl, rfl, ⟨by decide, by decide⟩, ?_⟩
              refine ⟨r / 1000, _, ds' ++ [r % 1000], rfl, by omega, Same.mut sm2 no, ?_, ?_⟩
              · rw [upd_same, List.map_append]
                rfl
              · rw [List.length_append]
                show ds'.length + 1 ≤ _
                omega
        · rintro σ H2 ⟨r, v4', ds', rfl, hr0', sm2, hL2, hl2⟩
          exact ⟨_, _, _, _, _, ds', rfl, sm2, hL2, by omega⟩
      · have c1 : CMul r0 48271 := .inr ⟨by decide, by decide⟩
        refine ⟨.int r0, rfl, r0, 48271, rfl, rfl, c1, _, 11, rfl, rfl, .inl ⟨_, rfl, _, 2147483647, rfl, rfl, (show (0:Int) < 2147483647 by decide), ?_⟩⟩
        have c2 : ∀ x : Int, CMul x 69621 := fun _ => .inr ⟨by decide, by decide⟩
        refine ⟨_, rfl, _, 69621, rfl, rfl, c2 _, .int r0, rfl, _, r0, rfl, rfl, .inl ⟨_, rfl, _, 2147483629, rfl, rfl, (show (0:Int) < 2147483629 by decide), ?_⟩⟩
        have p1000 : (0:Int) < 1000 := by decide
        refine ⟨.ref o, rfl, .inl ⟨rfl, _, .inl (.inl hL)⟩, ?_⟩
        refine ⟨.int r0, rfl, .inl ⟨r0, rfl, r0, 1000, rfl, rfl, p1000, _, rfl, .inl ⟨_, rfl, _, 1000, rfl, rfl, p1000, _, rfl, .inl ⟨_, rfl, _, 1000, rfl, rfl, p1000, ?_⟩⟩⟩⟩
        refine ⟨(by show 3 ≤ sizeLine; decide), fun c nc => ?_⟩
        have hoc : o ≠ c := ne_of_none hL nc
        refine ⟨o, c, ds.map V.int, _, rfl, rfl, ?_, upd_same, ?_, ?_⟩
        · rw [upd_ne hoc]
          exact hL
        · rw [List.length_map]
          exact Nat.le_of_lt (small_of (show ds.length + 3 ≤ 100000 by omega))
        · refine ⟨_, _, _, _, _, ds ++ [r0 % 1000, (r0 * 48271 + 11) % 2147483647 % 1000, ((r0 * 48271 + 11) % 2147483647 * 69621 + r0) % 2147483629 % 1000], rfl, Same.mut (Same.trans sm (same_upd nc)) no, ?_, ?_⟩
          · rw [upd_same, List.map_append]
            rfl
          · rw [List.length_append]
            show ds.length + 3 ≤ _
            omega
    · rintro σ H1 ⟨v2, v3, v4, v5, v6, ds, rfl, sm, hL, hl⟩
      exact ⟨_, rfl, q H1 o ds sm no hL⟩
end

theorem sqL_same {K : PySem.W.Frag} {H H' : Hp} {a : Addr} {xs : List V} (e : Same H H') (h : SqL K H a xs) : SqL K H' a xs := by
  rcases h with (h | ⟨o, h⟩) | h
  · exact .inl (.inl (e _ _ h))
  · exact .inl (.inr ⟨o, e _ _ h⟩)
  · exact .inr h
theorem none_back {H H' : Hp} {a : Addr} (s : Same H H') (h : H' a = none) : H a = none := by
  cases e : H a with
  | none => rfl
  | some o =>
    rw [s _ _ e] at h
    exact nomatch h

/-- a tuple of these integers -/
def TP (H : Hp) (v : V) (z : List Int) : Prop := ∃ t, v = .ref t ∧ H t = some (.tup (z.map V.int))
theorem TP.same {H H' : Hp} {v : V} {z : List Int} (s : Same H H') (h : TP H v z) : TP H' v z := by
  obtain ⟨t, rfl, h⟩ := h
  exact ⟨t, rfl, s _ _ h⟩
def dT (z : List Int) : PyData := .tuple (z.map PyData.int)
theorem ints_dp {K : PySem.W.Frag} {H : Hp} : ∀ z : List Int, DpAll K H (z.map V.int) (z.map PyData.int)
  | [] => .nil
  | a :: r => .cons (.int a) (ints_dp r)
theorem TP.dp {K : PySem.W.Frag} {H : Hp} {v : V} {z : List Int} (h : TP H v z) : Dp K H v (dT z) := by
  obtain ⟨t, rfl, h⟩ := h
  exact .tup (.inl (.inl h)) (ints_dp z)
theorem tps_dp {K : PySem.W.Frag} {H : Hp} : ∀ {vs : List V} {zs : List (List Int)}, Paired (TP H) vs zs → DpAll K H vs (zs.map dT)
  | _, _, .nil => .nil
  | _, _, .cons a b => .cons a.dp (tps_dp b)
theorem paired_add {α β : Type} {F : α → β → Prop} {a : α} {b : β} (h : F a b) : ∀ {l : List α} {m : List β}, Paired F l m → Paired F (l ++ [a]) (m ++ [b])
  | _, _, .nil => .cons h .nil
  | _, _, .cons x y => .cons x (paired_add h y)
theorem dT_small {z : List Int} (h : ∀ k, (co z k).natAbs < 2 ^ 200) : SmL 1 (1923 * z.length + 3) (dT z) := by
  have e := smL_tuple (ds := z.map PyData.int) (n := 0) (k := 1921) fun D hD => by
    obtain ⟨a, ha, rfl⟩ := List.mem_map.mp hD
    obtain ⟨i, hi, rfl⟩ := List.mem_iff_getElem.mp ha
    have e1 := co_get hi
    rw [List.getElem?_eq_getElem hi] at e1
    rw [Option.some.inj e1]
    exact smL_int (h i)
  rw [List.length_map] at e
  exact e
theorem SmL.more {n k k' : Nat} {D : PyData} (h : SmL n k D) (hk : k ≤ k') : SmL n k' D := by
  obtain ⟨h1, h2, h3, h4⟩ := h
  exact ⟨h1, h2, h3, Nat.le_trans h4 hk⟩
theorem repT {α : Type} (x : α) : ∀ n : Nat, (List.replicate n [x]).flatten = List.replicate n x
  | 0 => rfl
  | n + 1 => by rw [List.replicate_succ, List.flatten_cons, repT x n, List.replicate_succ]; rfl
def rCatB (K : PySem.W.Frag) : R2 := fun x y H Q => ∃ a b xs ys, x = .ref a ∧ y = .ref b ∧ SqT K H a xs ∧ SqT K H b ys ∧ xs.length + ys.length ≤ sizeLine ∧ ∀ p H', Same H H' → SqT K H' p (xs ++ ys) → Q (.ref p) H'
theorem op_catB {X : Cx} : OpR X (binaryOp .Add) (rCatB X.K) := by
  intro pins s σ H x y v u Q I rx ry h
  obtain ⟨a, b, xs, ys, rfl, rfl, ha, hb, hz, q⟩ := h
  refine op_catA pins s σ H _ _ v u Q I rx ry ⟨a, b, xs, ys, rfl, rfl, ha, hb, hz, fun e => ?_, fun _ e => ?_, fun _ _ p np => ?_⟩
  · exact q b H (Same.refl _) (by rw [e, List.nil_append]; exact hb)
  · exact q a H (Same.refl _) (by rw [e, List.append_nil]; exact ha)
  · exact q p _ (same_upd np) (.inl (.inl upd_same))
theorem sqT_butL {K : PySem.W.Frag} {H H' : Hp} {r a : Addr} {xs ys : List V} (hr : H r = some (.lst ys)) (e : SameBut r H H') (h : SqT K H a xs) : SqT K H' a xs := by
  rcases h with (h | ⟨o, h⟩) | h
  · exact .inl (.inl (e _ _ (ne_of h hr (fun z => nomatch z)) h))
  · exact .inl (.inr ⟨o, e _ _ (ne_of h hr (fun z => nomatch z)) h⟩)
  · exact .inr h
theorem eqvAll_ints : ∀ x y : List Int, PyData.eqvAll (x.map PyData.int) (y.map PyData.int) = decide (x = y)
  | [], [] => by simp [PyData.eqvAll]
  | [], _ :: _ => by simp [PyData.eqvAll]
  | _ :: _, [] => by simp [PyData.eqvAll]
  | a :: x, b :: y => by
    rw [List.map_cons, List.map_cons]
    simp only [PyData.eqvAll, PyData.eqv, eqvAll_ints x y]
    by_cases h1 : a = b
    · by_cases h2 : x = y
      · simp [h1, h2]
      · simp [h2]
    · simp [h1]
theorem eqv_dT (x y : List Int) : PyData.eqv (dT x) (dT y) = decide (x = y) := by
  unfold dT
  simp only [PyData.eqv, eqvAll_ints]
theorem lay_ints : ∀ x : List Int, PyData.canLayAll0 (x.map PyData.int) = true ∧ PyData.depthAll (x.map PyData.int) = 0
  | [] => ⟨by simp [PyData.canLayAll0], by simp [PyData.depthAll]⟩
  | a :: x => by
    obtain ⟨h1, h2⟩ := lay_ints x
    exact ⟨by simp [PyData.canLayAll0, PyData.canLay0, h1], by simp [PyData.depthAll, PyData.depth, h2]⟩
theorem dT_shaped (x : List Int) : SeqAt.shaped (dT x) = true := by
  obtain ⟨h1, h2⟩ := lay_ints x
  show (PyData.canLay0 (dT x) && decide (PyData.depth (dT x) ≤ 64)) = true
  unfold dT
  rw [show PyData.canLay0 (.tuple (x.map PyData.int)) = true by simp [PyData.canLay0, h1], show PyData.depth (.tuple (x.map PyData.int)) = 1 by simp [PyData.depth, h2]]
  rfl
theorem eqD_TP {K : PySem.W.Frag} {H : Hp} {u v : V} {x y : List Int} {Q : VK} (hx : TP H u x) (hy : TP H v y) (q : Q (.bl (decide (x = y))) H) : rEqD K u v H Q :=
  ⟨_, _, hx.dp, hy.dp, dT_shaped x, dT_shaped y, by rw [eqv_dT]; exact q⟩
theorem neD_TP {K : PySem.W.Frag} {H : Hp} {u v : V} {x y : List Int} {Q : VK} (hx : TP H u x) (hy : TP H v y) (q : Q (.bl (!decide (x = y))) H) : rNeD K u v H Q :=
  ⟨_, _, hx.dp, hy.dp, dT_shaped x, dT_shaped y, by rw [eqv_dT]; exact q⟩
def rRepB (K : PySem.W.Frag) : R2 := fun x y H Q => ∃ l k xs, x = .ref l ∧ y = .int k ∧ SqT K H l xs ∧ xs ≠ [] ∧ 0 ≤ k ∧ k ≤ 1000 ∧ xs.length ≤ 1000 ∧ ∀ p H', Same H H' → SqT K H' p (List.replicate k.toNat xs).flatten → Q (.ref p) H'
theorem op_repB {X : Cx} : OpR X (binaryOp .Mult) (rRepB X.K) := by
  intro pins s σ H x y v u Q I rx ry h
  obtain ⟨l, k, xs, rfl, rfl, hT, hne, h1, h2, hz, q⟩ := h
  refine op_repA pins s σ H _ _ v u Q I rx ry ⟨l, k, xs, rfl, rfl, hT, hne, h1, h2, hz, fun e => ?_, fun _ p np => ?_⟩
  · refine q l H (Same.refl _) ?_
    rw [e, show (1 : Int).toNat = 1 from rfl]
    simpa using hT
  · exact q p _ (same_upd np) (.inl (.inl upd_same))
theorem ix_tupK {X : Cx} {K : PySem.W.Frag} (hK : X.K = K) : IxR X (rIxT K) := by
  subst hK
  exact ix_tup
theorem ix_listK {X : Cx} {K : PySem.W.Frag} (hK : X.K = K) : IxR X (rIxL K) := by
  subst hK
  exact ix_list
theorem ite_same {x : V} {A B : Prop} (h : B) : if (!decide (x = x)) = true then A else B := by
  rw [decide_eq_true rfl]
  exact iteF h
theorem pi_tupK {X : Cx} {K : PySem.W.Frag} {tg e : Expr} {te : TE} (hK : X.K = K) (he : PE X e te) : PI X tg e (iTup K te) := by
  subst hK
  exact pi_tup he
theorem call_list_ofK {X : Cx} {K : PySem.W.Frag} (hK : X.K = K) : CallR X (.type "list") (fun xs H Q => ∃ p ys, xs = [.ref p] ∧ (SqL K H p ys ∨ SqT K H p ys) ∧ ∀ l, H l = none → Q (.ref l) (upd H l (.lst ys))) := by
  subst hK
  exact call_list_of
theorem op_eqDK {X : Cx} {K : PySem.W.Frag} (hK : X.K = K) (hu : X.A.units + 64 < cLine) : OpR X (compareOp .Eq) (rEqD K) := by
  subst hK
  exact op_eqD hu

/-! ### marks and blocks -/
def seenL : List Int → List Int → List Int
  | acc, [] => acc
  | acc, x :: l => seenL (if x ∈ acc then acc else acc ++ [x]) l
def ixs (N : Nat) : List Int := (List.range N).map fun (i : Nat) => (i : Int)
def posOf (marks : List Int) (v : Int) : List Int := ((List.range marks.length).filter fun i => decide (co marks i = v)).map fun (i : Nat) => (i : Int)
def blocksOf (marks : List Int) : List (List Int) := (seenL [] marks).map (posOf marks)
theorem seenL_snoc : ∀ (l acc : List Int) (x : Int), seenL acc (l ++ [x]) = if x ∈ seenL acc l then seenL acc l else seenL acc l ++ [x]
  | [], acc, x => rfl
  | y :: l, acc, x => by
    show seenL _ (l ++ [x]) = _
    rw [seenL_snoc l _ x]
    rfl
theorem seenL_sub : ∀ (l acc : List Int) (x : Int), x ∈ acc → x ∈ seenL acc l
  | [], _, _, h => h
  | y :: l, acc, x, h => by
    show x ∈ seenL _ l
    refine seenL_sub l _ x ?_
    split
    · exact h
    · exact List.mem_append_left _ h
theorem seenL_mem : ∀ (l acc : List Int) (x : Int), x ∈ seenL acc l ↔ x ∈ acc ∨ x ∈ l
  | [], acc, x => by
    show x ∈ acc ↔ _
    simp
  | y :: l, acc, x => by
    show x ∈ seenL _ l ↔ _
    rw [seenL_mem l _ x]
    by_cases c : y ∈ acc
    · rw [if_pos c, List.mem_cons]
      constructor
      · rintro (h | h)
        · exact .inl h
        · exact .inr (.inr h)
      · rintro (h | rfl | h)
        · exact .inl h
        · exact .inl c
        · exact .inr h
    · rw [if_neg c, List.mem_cons, List.mem_append, List.mem_singleton, or_assoc]
theorem seenL_nodup : ∀ (l acc : List Int), acc.Nodup → (seenL acc l).Nodup
  | [], _, h => h
  | y :: l, acc, h => by
    refine seenL_nodup l _ ?_
    split
    · exact h
    · rename_i c
      refine List.nodup_append.mpr ⟨h, by simp, fun a ha b hb => ?_⟩
      rw [List.mem_singleton.mp hb]
      exact fun z => c (z ▸ ha)
theorem seenL_len : ∀ (l acc : List Int), (seenL acc l).length ≤ acc.length + l.length
  | [], _ => Nat.le_refl _
  | y :: l, acc => by
    have h := seenL_len l (if y ∈ acc then acc else acc ++ [y])
    show (seenL _ l).length ≤ _
    rw [List.length_cons]
    split at h
    · rename_i c
      rw [if_pos c]
      omega
    · rename_i c
      rw [if_neg c]
      rw [List.length_append] at h
      have : [y].length = 1 := rfl
      omega
/-- equal marks alone count -/
theorem seenL_map {g : Int → Int} : ∀ (l acc : List Int), (∀ x ∈ acc ++ l, ∀ y ∈ acc ++ l, g x = g y → x = y) → seenL (acc.map g) (l.map g) = (seenL acc l).map g
  | [], _, _ => rfl
  | y :: l, acc, h => by
    show seenL (if g y ∈ acc.map g then acc.map g else acc.map g ++ [g y]) (l.map g) = (seenL (if y ∈ acc then acc else acc ++ [y]) l).map g
    by_cases c : y ∈ acc
    · rw [if_pos c, if_pos (List.mem_map_of_mem c)]
      refine seenL_map l acc fun a ha b hb => h a ?_ b ?_
      · rcases List.mem_append.mp ha with z | z
        · exact List.mem_append_left _ z
        · exact List.mem_append_right _ (List.mem_cons_of_mem _ z)
      · rcases List.mem_append.mp hb with z | z
        · exact List.mem_append_left _ z
        · exact List.mem_append_right _ (List.mem_cons_of_mem _ z)
    · have c2 : g y ∉ acc.map g := fun z => by
        obtain ⟨a, ha, e⟩ := List.mem_map.mp z
        exact c (h a (List.mem_append_left _ ha) y (List.mem_append_right _ List.mem_cons_self) e ▸ ha)
      rw [if_neg c, if_neg c2, show acc.map g ++ [g y] = (acc ++ [y]).map g by rw [List.map_append]; rfl]
      refine seenL_map l (acc ++ [y]) fun a ha b hb => h a ?_ b ?_
      · rwa [List.append_assoc] at ha
      · rwa [List.append_assoc] at hb
theorem co_mapI (g : Int → Int) (l : List Int) {i : Nat} (h : i < l.length) : co (l.map g) i = g (co l i) := by
  have e := co_get (l := l.map g) (k := i) (by rw [List.length_map]; exact h)
  rw [List.getElem?_map, co_get h] at e
  exact (Option.some.inj e).symm
theorem posOf_map {g : Int → Int} {marks : List Int} {v : Int} (hv : v ∈ marks) (h : ∀ x ∈ marks, ∀ y ∈ marks, g x = g y → x = y) : posOf (marks.map g) (g v) = posOf marks v := by
  unfold posOf
  rw [List.length_map]
  congr 1
  refine List.filter_congr fun i hi => ?_
  have hi' := List.mem_range.mp hi
  rw [co_mapI g marks hi']
  by_cases c : co marks i = v
  · rw [decide_eq_true c, decide_eq_true (congrArg g c)]
  · rw [decide_eq_false c, decide_eq_false (fun z => c (h _ (co_mem hi') _ hv z))]
theorem blocksOf_map {g : Int → Int} {marks : List Int} (h : ∀ x ∈ marks, ∀ y ∈ marks, g x = g y → x = y) : blocksOf (marks.map g) = blocksOf marks := by
  unfold blocksOf
  rw [show ([] : List Int) = ([] : List Int).map g from rfl, seenL_map marks [] (by rw [List.nil_append]; exact h), List.map_map]
  refine List.map_congr_left fun v hv => ?_
  rcases (seenL_mem marks [] v).mp hv with z | z
  · exact nomatch z
  · exact posOf_map z h
/-! a partition -/
theorem perm_split (p : Nat → Bool) : ∀ l : List Nat, (l.filter p ++ l.filter fun x => !p x).Perm l := fun l => List.filter_append_perm p l
theorem part_perm {f : Nat → Int} : ∀ (vs : List Int) (l : List Nat), vs.Nodup → (∀ x ∈ l, f x ∈ vs) → ((vs.map fun v => l.filter fun i => decide (f i = v)).flatten).Perm l
  | [], l, _, h => by
    have : l = [] := List.eq_nil_iff_forall_not_mem.mpr fun x hx => nomatch h x hx
    rw [this]
    exact .refl _
  | v :: vs, l, nd, h => by
    rw [List.map_cons, List.flatten_cons]
    obtain ⟨nv, nd'⟩ := List.nodup_cons.mp nd
    have ih := part_perm (f := f) vs (l.filter fun i => !decide (f i = v)) nd' fun x hx => by
      obtain ⟨h1, h2⟩ := List.mem_filter.mp hx
      rcases List.mem_cons.mp (h x h1) with e | e
      · rw [decide_eq_true e] at h2
        exact nomatch h2
      · exact e
    have e : (vs.map fun v' => (l.filter fun i => !decide (f i = v)).filter fun i => decide (f i = v')) = vs.map fun v' => l.filter fun i => decide (f i = v') := by
      refine List.map_congr_left fun v' hv' => ?_
      rw [List.filter_filter]
      refine List.filter_congr fun i _ => ?_
      by_cases c : f i = v'
      · have c2 : f i ≠ v := fun z => nv (by rw [← z, c]; exact hv')
        rw [decide_eq_true c, decide_eq_false c2]
        rfl
      · rw [decide_eq_false c]
        rfl
    rw [e] at ih
    exact (List.Perm.append_left _ ih).trans (perm_split _ l)
theorem mem_posOf {marks : List Int} {v x : Int} : x ∈ posOf marks v ↔ ∃ i : Nat, x = (i : Int) ∧ i < marks.length ∧ co marks i = v := by
  unfold posOf
  rw [List.mem_map]
  constructor
  · rintro ⟨i, hi, rfl⟩
    obtain ⟨h1, h2⟩ := List.mem_filter.mp hi
    exact ⟨i, rfl, List.mem_range.mp h1, of_decide_eq_true h2⟩
  · rintro ⟨i, rfl, h1, h2⟩
    exact ⟨i, List.mem_filter.mpr ⟨List.mem_range.mpr h1, decide_eq_true h2⟩, rfl⟩
theorem mem_get {l : List Int} {v : Int} (h : v ∈ l) : ∃ i, i < l.length ∧ co l i = v := by
  obtain ⟨i, hi, e⟩ := List.mem_iff_getElem.mp h
  refine ⟨i, hi, ?_⟩
  have e1 := co_get hi
  rw [List.getElem?_eq_getElem hi] at e1
  rw [← Option.some.inj e1]
  exact e
theorem blocks_perm (marks : List Int) : (blocksOf marks).flatten.Perm (ixs marks.length) := by
  unfold blocksOf ixs
  have h := part_perm (f := co marks) (seenL [] marks) (List.range marks.length) (seenL_nodup marks [] List.nodup_nil) fun x hx => (seenL_mem marks [] _).mpr (.inr (co_mem (List.mem_range.mp hx)))
  have e : ((seenL [] marks).map (posOf marks)).flatten = (((seenL [] marks).map fun v => (List.range marks.length).filter fun i => decide (co marks i = v)).flatten).map fun (i : Nat) => (i : Int) := by
    rw [List.map_flatten, List.map_map]
    rfl
  rw [e]
  exact h.map _
theorem blocks_ne {marks : List Int} : ∀ b ∈ blocksOf marks, b ≠ [] := fun b hb => by
  obtain ⟨v, hv, rfl⟩ := List.mem_map.mp hb
  rcases (seenL_mem marks [] v).mp hv with z | z
  · exact nomatch z
  · obtain ⟨i, hi, e⟩ := mem_get z
    intro c
    have : (i : Int) ∈ posOf marks v := mem_posOf.mpr ⟨i, rfl, hi, e⟩
    rw [c] at this
    exact nomatch this
theorem range_lt (n : Nat) : (List.range n).Pairwise (· < ·) := List.pairwise_lt_range
theorem posOf_asc (marks : List Int) (v : Int) : (posOf marks v).Pairwise (· < ·) := by
  unfold posOf
  exact List.pairwise_map.mpr ((List.Pairwise.filter _ (range_lt _)).imp fun {a b} h => by omega)
theorem head_ix (p : Nat → Bool) {i : Nat} (h0 : ∀ j, j < i → p j = false) (h1 : p i = true) : ∀ N, (N ≤ i → (List.range N).filter p = []) ∧ (i < N → ((List.range N).filter p)[0]? = some i)
  | 0 => ⟨fun _ => rfl, fun h => absurd h (Nat.not_lt_zero _)⟩
  | N + 1 => by
    obtain ⟨a, b⟩ := head_ix p h0 h1 N
    rw [List.range_succ, List.filter_append]
    refine ⟨fun h => ?_, fun h => ?_⟩
    · rw [a (by omega), List.filter_cons, h0 N (by omega)]
      rfl
    · by_cases c : N = i
      · rw [a (by omega), List.filter_cons, c, h1]
        rfl
      · have h2 := b (by omega)
        rw [List.getElem?_append_left (List.getElem?_eq_some_iff.mp h2).1]
        exact h2
theorem posOf_head {marks : List Int} {i : Nat} (hi : i < marks.length) (h : co marks i ∉ marks.take i) : co (posOf marks (co marks i)) 0 = (i : Int) := by
  have h2 := (head_ix (fun j => decide (co marks j = co marks i)) (i := i) (fun j hj => decide_eq_false fun z => h ?_) (decide_eq_true rfl) marks.length).2 hi
  · unfold posOf co
    rw [List.getD_eq_getElem?_getD, List.getElem?_map]
    show ((((List.range marks.length).filter fun j => decide (co marks j = co marks i))[0]?).map fun (i : Nat) => (i : Int)).getD 0 = _
    rw [h2]
    rfl
  · rw [← z]
    have e : (marks.take i)[j]? = some (co marks j) := by rw [List.getElem?_take_of_lt hj, co_get (by omega)]
    exact List.mem_of_getElem? e
theorem take_snoc {l : List Int} {i : Nat} (h : i < l.length) : l.take (i + 1) = l.take i ++ [co l i] := by
  rw [List.take_succ, co_get h]
  rfl
theorem heads_run (marks : List Int) : ∀ i, i ≤ marks.length → ((seenL [] (marks.take i)).map fun v => co (posOf marks v) 0).Pairwise (· < ·) ∧ ∀ v ∈ seenL [] (marks.take i), co (posOf marks v) 0 < (i : Int)
  | 0, _ => ⟨.nil, fun v hv => nomatch hv⟩
  | i + 1, h => by
    obtain ⟨h1, h2⟩ := heads_run marks i (by omega)
    rw [take_snoc (by omega), seenL_snoc]
    by_cases c : co marks i ∈ seenL [] (marks.take i)
    · rw [if_pos c]
      exact ⟨h1, fun v hv => by have := h2 v hv; omega⟩
    · rw [if_neg c]
      have hd := posOf_head (marks := marks) (i := i) (by omega) fun z => c ((seenL_mem _ _ _).mpr (.inr z))
      refine ⟨?_, fun v hv => ?_⟩
      · rw [List.map_append]
        refine List.pairwise_append.mpr ⟨h1, List.pairwise_singleton _ _, fun a ha b hb => ?_⟩
        obtain ⟨v, hv, rfl⟩ := List.mem_map.mp ha
        obtain ⟨u, hu, rfl⟩ := List.mem_map.mp hb
        rw [List.mem_singleton.mp hu, hd]
        exact h2 v hv
      · rcases List.mem_append.mp hv with hv | hv
        · have := h2 v hv
          omega
        · rw [List.mem_singleton.mp hv, hd]
          omega
theorem blocks_heads (marks : List Int) : ((blocksOf marks).map fun b => co b 0).Pairwise (· < ·) := by
  have h := (heads_run marks marks.length (Nat.le_refl _)).1
  rw [List.take_length] at h
  unfold blocksOf
  rw [List.map_map]
  exact h
/-! labels -/
def labFrom : List (List Int) → Nat → List Int → List Int
  | [], _, ms => ms
  | b :: bs, k, ms => labFrom bs (k + 1) (b.foldl (fun ms p => ms.set p.toNat (k : Int)) ms)
def labL (bs : List (List Int)) (N : Nat) : List Int := labFrom bs 0 (List.replicate N 0)
theorem fold_len (k : Int) : ∀ (b ms : List Int), (b.foldl (fun ms p => ms.set p.toNat k) ms).length = ms.length
  | [], _ => rfl
  | p :: b, ms => by
    show (b.foldl _ (ms.set p.toNat k)).length = _
    rw [fold_len k b, List.length_set]
theorem fold_co (k : Int) {i : Nat} : ∀ (b ms : List Int), (∀ p ∈ b, 0 ≤ p ∧ p < ms.length) → co (b.foldl (fun ms p => ms.set p.toNat k) ms) i = if (i : Int) ∈ b then k else co ms i
  | [], _, _ => rfl
  | p :: b, ms, h => by
    show co (b.foldl _ (ms.set p.toNat k)) i = _
    obtain ⟨h1, h2⟩ := h p List.mem_cons_self
    rw [fold_co k b (ms.set p.toNat k) fun q hq => by rw [List.length_set]; exact h q (List.mem_cons_of_mem _ hq), co_set i (by omega)]
    by_cases c : (i : Int) ∈ b
    · rw [if_pos c, if_pos (List.mem_cons_of_mem _ c)]
    · rw [if_neg c]
      by_cases c2 : i = p.toNat
      · rw [if_pos c2, if_pos (List.mem_cons.mpr (.inl (by omega)))]
      · rw [if_neg c2, if_neg]
        intro z
        rcases List.mem_cons.mp z with z | z
        · omega
        · exact c z
theorem labFrom_len : ∀ (bs : List (List Int)) (k : Nat) (ms : List Int), (labFrom bs k ms).length = ms.length
  | [], _, _ => rfl
  | b :: bs, k, ms => by
    show (labFrom bs (k + 1) _).length = _
    rw [labFrom_len bs, fold_len]
theorem labL_len (bs : List (List Int)) (N : Nat) : (labL bs N).length = N := by
  unfold labL
  rw [labFrom_len, List.length_replicate]
theorem labFrom_co {marks : List Int} {i : Nat} (hi : i < marks.length) : ∀ (vs : List Int) (k : Nat) (ms : List Int), vs.Nodup → ms.length = marks.length → co (labFrom (vs.map (posOf marks)) k ms) i = if co marks i ∈ vs then ((k + vs.idxOf (co marks i) : Nat) : Int) else co ms i
  | [], _, _, _, _ => rfl
  | v :: vs, k, ms, nd, hl => by
    obtain ⟨nv, nd'⟩ := List.nodup_cons.mp nd
    show co (labFrom (vs.map (posOf marks)) (k + 1) _) i = _
    rw [labFrom_co hi vs (k + 1) _ nd' (by rw [fold_len, hl]), fold_co (k : Int) (posOf marks v) ms fun p hp => by
      obtain ⟨j, rfl, hj, _⟩ := mem_posOf.mp hp
      omega]
    have e : ((i : Int) ∈ posOf marks v) ↔ co marks i = v := by
      rw [mem_posOf]
      exact ⟨fun ⟨j, e, _, h⟩ => by rw [show i = j by omega]; exact h, fun h => ⟨i, rfl, hi, h⟩⟩
    by_cases c : co marks i = v
    · rw [if_neg (by rw [c]; exact nv), if_pos (e.mpr c), if_pos (List.mem_cons.mpr (.inl c)), c, List.idxOf_cons_self]
      rfl
    · rw [if_neg (fun z => c (e.mp z))]
      by_cases c2 : co marks i ∈ vs
      · rw [if_pos c2, if_pos (List.mem_cons_of_mem _ c2), List.idxOf_cons, cond_eq_ite, if_neg (by simpa using Ne.symm c)]
        congr 1
        omega
      · rw [if_neg c2, if_neg fun z => (List.mem_cons.mp z).elim c c2]
theorem labL_marks (marks : List Int) : labL (blocksOf marks) marks.length = marks.map fun v => (((seenL [] marks).idxOf v : Nat) : Int) := by
  refine List.ext_getElem? fun i => ?_
  have l1 := labL_len (blocksOf marks) marks.length
  rcases Nat.lt_or_ge i marks.length with c | c
  · rw [co_get (by omega), List.getElem?_map, co_get c]
    unfold labL blocksOf
    rw [labFrom_co c (seenL [] marks) 0 _ (seenL_nodup marks [] List.nodup_nil) List.length_replicate, if_pos ((seenL_mem marks [] _).mpr (.inr (co_mem c))), Nat.zero_add]
    rfl
  · rw [List.getElem?_eq_none (by omega), List.getElem?_eq_none (by rw [List.length_map]; exact c)]
theorem idx_inj {l : List Int} {x y : Int} (hx : x ∈ l) (hy : y ∈ l) (h : (((l.idxOf x : Nat) : Int)) = ((l.idxOf y : Nat) : Int)) : x = y := by
  have h' : l.idxOf x = l.idxOf y := by omega
  have e1 := List.getElem_idxOf (List.idxOf_lt_length_of_mem hx)
  have e2 := List.getElem_idxOf (List.idxOf_lt_length_of_mem hy)
  rw [← e1, ← e2]
  congr 1
theorem blocks_lab (marks : List Int) : blocksOf (labL (blocksOf marks) marks.length) = blocksOf marks := by
  rw [labL_marks]
  exact blocksOf_map fun x hx y hy h => idx_inj ((seenL_mem marks [] x).mpr (.inr hx)) ((seenL_mem marks [] y).mpr (.inr hy)) h

def siz (n m : Int) : Bool := decide (0 ≤ n ∧ n ≤ 8 ∧ 0 ≤ m ∧ m ≤ 8 ∧ n + m ≤ 12)
theorem cr_sortedITK {X : Cx} {K : PySem.W.Frag} (hK : X.K = K) : CallR X (.builtin "sorted") (rSortedIT K) := by
  subst hK
  exact cr_sortedIT
theorem outer_it {J : It} {n : Nat} {G : Hp → Prop} {Y : Nat → Hp → V → Hp → Prop} (w : Walk J n G Y) {B : V → Hp → (Hp → Prop) → Prop} {H0 : Hp} {Qd : Hp → Prop} (Pv : Nat → Hp → Prop) (h0 : Pv 0 H0) (hG : ∀ i H, i ≤ n → Pv i H → G H)
    (hs : ∀ i x H H', i < n → Pv i H → Y i H x H' → B x H' (Pv (i + 1))) (hd : ∀ H, Pv n H → Qd H) :
    ∃ W : Nat → Nat → Hp → Prop, (∃ m, W 0 m H0) ∧ ∀ i m H, W i m H → (J.stop i H ∧ Qd H) ∨ (J.go i H ∧ ∃ Nx : Hp → Prop, (∀ H', Nx H' → ∃ m', m' < m ∧ W (i + 1) m' H') ∧ ∀ x H', J.yld i H x H' → B x H' Nx) := by
  refine ⟨fun i m H => m = n - i ∧ i ≤ n ∧ Pv i H, ⟨n, by simp, Nat.zero_le _, h0⟩, ?_⟩
  rintro i m H ⟨rfl, hi, p⟩
  have q := hG i H hi p
  by_cases hlt : i < n
  · refine .inr ⟨w.goes i H hlt q, Pv (i + 1), fun H' p' => ⟨n - (i + 1), by omega, rfl, hlt, p'⟩, fun x H' y => hs i x H H' hlt p (w.yields i H x H' hlt q y)⟩
  · have e : i = n := by omega
    subst e
    exact .inl ⟨w.stops H q, hd H p⟩
/-- a tuple of tuples of integers; a diagram -/
def TT (H : Hp) (v : V) (bs : List (List Int)) : Prop := ∃ tb ts, v = .ref tb ∧ H tb = some (.tup ts) ∧ Paired (TP H) ts bs
def DGv (H : Hp) (v : V) (n m : Int) (bs : List (List Int)) : Prop := ∃ t vb, v = .ref t ∧ H t = some (.tup [.int n, .int m, vb]) ∧ TT H vb bs
theorem TT.same {H H' : Hp} {v : V} {bs : List (List Int)} (s : Same H H') (h : TT H v bs) : TT H' v bs := by
  obtain ⟨tb, ts, rfl, h, pr⟩ := h
  exact ⟨tb, ts, rfl, s _ _ h, Paired.mapP pr fun _ _ h => h.same s⟩
theorem DGv.same {H H' : Hp} {v : V} {n m : Int} {bs : List (List Int)} (s : Same H H') (h : DGv H v n m bs) : DGv H' v n m bs := by
  obtain ⟨t, vb, rfl, h, tt⟩ := h
  exact ⟨t, vb, rfl, s _ _ h, tt.same s⟩
def dTT (bs : List (List Int)) : PyData := .tuple (bs.map dT)
def dDG (n m : Int) (bs : List (List Int)) : PyData := .tuple [.int n, .int m, dTT bs]
theorem TT.dp {K : PySem.W.Frag} {H : Hp} {v : V} {bs : List (List Int)} (h : TT H v bs) : Dp K H v (dTT bs) := by
  obtain ⟨tb, ts, rfl, h, pr⟩ := h
  exact .tup (.inl (.inl h)) (tps_dp pr)
theorem DGv.dp {K : PySem.W.Frag} {H : Hp} {v : V} {n m : Int} {bs : List (List Int)} (h : DGv H v n m bs) : Dp K H v (dDG n m bs) := by
  obtain ⟨t, vb, rfl, h, tt⟩ := h
  exact .tup (.inl (.inl h)) (.cons (.int n) (.cons (.int m) (.cons tt.dp .nil)))
theorem lay_dTs : ∀ bs : List (List Int), PyData.canLayAll0 (bs.map dT) = true ∧ PyData.depthAll (bs.map dT) ≤ 1
  | [] => ⟨by simp [PyData.canLayAll0], by simp [PyData.depthAll]⟩
  | b :: bs => by
    obtain ⟨h1, h2⟩ := lay_dTs bs
    obtain ⟨h3, h4⟩ := lay_ints b
    have e1 : PyData.canLay0 (dT b) = true := by simp [dT, PyData.canLay0, h3]
    have e2 : PyData.depth (dT b) = 1 := by simp [dT, PyData.depth, h4]
    refine ⟨by simp [PyData.canLayAll0, e1, h1], ?_⟩
    simp only [List.map_cons, PyData.depthAll, e2]
    omega
theorem dTT_lay (bs : List (List Int)) : PyData.canLay0 (dTT bs) = true ∧ PyData.depth (dTT bs) ≤ 2 := by
  obtain ⟨h1, h2⟩ := lay_dTs bs
  exact ⟨by simp [dTT, PyData.canLay0, h1], by simp only [dTT, PyData.depth]; omega⟩
theorem dDG_lay (n m : Int) (bs : List (List Int)) : PyData.canLay0 (dDG n m bs) = true ∧ PyData.depth (dDG n m bs) ≤ 3 := by
  obtain ⟨h1, h2⟩ := dTT_lay bs
  exact ⟨by simp [dDG, PyData.canLay0, PyData.canLayAll0, h1], by simp only [dDG, PyData.depth, PyData.depthAll]; omega⟩
theorem dTT_shaped (bs : List (List Int)) : SeqAt.shaped (dTT bs) = true := by
  obtain ⟨h1, h2⟩ := dTT_lay bs
  show (PyData.canLay0 (dTT bs) && decide (PyData.depth (dTT bs) ≤ 64)) = true
  rw [h1, decide_eq_true (by omega)]
  rfl
theorem dDG_shaped (n m : Int) (bs : List (List Int)) : SeqAt.shaped (dDG n m bs) = true := by
  obtain ⟨h1, h2⟩ := dDG_lay n m bs
  show (PyData.canLay0 (dDG n m bs) && decide (PyData.depth (dDG n m bs) ≤ 64)) = true
  rw [h1, decide_eq_true (by omega)]
  rfl
/-- lists of integers -/
def dL (z : List Int) : PyData := .list (z.map PyData.int)
def LP (H : Hp) (v : V) (z : List Int) : Prop := ∃ t, v = .ref t ∧ H t = some (.lst (z.map V.int))
theorem LP.dp {K : PySem.W.Frag} {H : Hp} {v : V} {z : List Int} (h : LP H v z) : Dp K H v (dL z) := by
  obtain ⟨t, rfl, h⟩ := h
  exact .lst (.inl (.inl h)) (ints_dp z)
theorem LP.same {H H' : Hp} {v : V} {z : List Int} (s : Same H H') (h : LP H v z) : LP H' v z := by
  obtain ⟨t, rfl, h⟩ := h
  exact ⟨t, rfl, s _ _ h⟩
theorem dL_shaped (x : List Int) : SeqAt.shaped (dL x) = true := by
  obtain ⟨h1, h2⟩ := lay_ints x
  show (PyData.canLay0 (dL x) && decide (PyData.depth (dL x) ≤ 64)) = true
  unfold dL
  rw [show PyData.canLay0 (.list (x.map PyData.int)) = true by simp [PyData.canLay0, h1], show PyData.depth (.list (x.map PyData.int)) = 1 by simp [PyData.depth, h2]]
  rfl
theorem eqv_dL (x y : List Int) : PyData.eqv (dL x) (dL y) = decide (x = y) := by
  unfold dL
  simp only [PyData.eqv, eqvAll_ints]
theorem eqD_LP {K : PySem.W.Frag} {H : Hp} {u v : V} {x y : List Int} {Q : VK} (hx : LP H u x) (hy : LP H v y) (q : Q (.bl (decide (x = y))) H) : rEqD K u v H Q :=
  ⟨_, _, hx.dp, hy.dp, dL_shaped x, dL_shaped y, by rw [eqv_dL]; exact q⟩
theorem neD_LP {K : PySem.W.Frag} {H : Hp} {u v : V} {x y : List Int} {Q : VK} (hx : LP H u x) (hy : LP H v y) (q : Q (.bl (!decide (x = y))) H) : rNeD K u v H Q :=
  ⟨_, _, hx.dp, hy.dp, dL_shaped x, dL_shaped y, by rw [eqv_dL]; exact q⟩
theorem tt_get {H : Hp} {ts : List V} {bs : List (List Int)} (pr : Paired (TP H) ts bs) {i : Nat} {y : V} (h : ts[i]? = some y) : ∃ b, bs[i]? = some b ∧ TP H y b := by
  induction pr generalizing i with
  | nil => exact nomatch h
  | cons r t ih =>
    cases i with
    | zero =>
      obtain rfl := Option.some.inj h
      exact ⟨_, rfl, r⟩
    | succ i => exact ih h
theorem rgV_ixs {a : Int} (h : 0 ≤ a) : rgV 0 a = (ixs a.toNat).map V.int := by
  unfold rgV ixs
  rw [List.map_map, Int.sub_zero]
  refine List.map_congr_left fun i _ => ?_
  show V.int (0 + (i : Nat)) = V.int (i : Int)
  rw [Int.zero_add]
theorem ixs_len (N : Nat) : (ixs N).length = N := by
  unfold ixs
  rw [List.length_map, List.length_range]
theorem ixs_asc (N : Nat) : (ixs N).Pairwise (· ≤ ·) := by
  unfold ixs
  exact List.pairwise_map.mpr ((range_lt N).imp fun {a b} h => by omega)
theorem sorted_same {a b : List Int} (hp : a.Perm b) (ha : a.Pairwise (· ≤ ·)) (hb : b.Pairwise (· ≤ ·)) : a = b := hp.eq_of_pairwise (fun x y _ _ h1 h2 => Int.le_antisymm h1 h2) ha hb
structure IsDg (n m : Int) (bs : List (List Int)) : Prop where
  sz : siz n m = true
  ne : ∀ b ∈ bs, b ≠ []
  pm : bs.flatten.Perm (ixs (n + m).toNat)
  asc : ∀ b ∈ bs, b.Pairwise (· ≤ ·)
  hd : (bs.map fun b => co b 0).Pairwise (· ≤ ·)
theorem siz_iff {n m : Int} : siz n m = true ↔ (0 ≤ n ∧ n ≤ 8 ∧ 0 ≤ m ∧ m ≤ 8 ∧ n + m ≤ 12) := by
  unfold siz
  exact decide_eq_true_iff
theorem isDg_blocks {n m : Int} {marks : List Int} (h : siz n m = true) (hl : (marks.length : Int) = n + m) : IsDg n m (blocksOf marks) := by
  have hs := siz_iff.mp h
  refine ⟨h, blocks_ne, ?_, fun b hb => ?_, (blocks_heads marks).imp fun {a b} h => by omega⟩
  · have := blocks_perm marks
    rwa [show marks.length = (n + m).toNat by omega] at this
  · obtain ⟨v, _, rfl⟩ := List.mem_map.mp hb
    exact (posOf_asc marks v).imp fun {a b} h => by omega

section
variable {P : Program} {w : World} {K : PySem.W.Frag} {mg : Str → Option Value} {base : Heap}
/-! ### _is_size, _check_size -/
def spIsSize : Sp := fun vs H Q _ => ∃ n m : Int, vs = [.int n, .int m] ∧ Q (.bl (siz n m)) H
theorem ok_is_size_ {f : Addr} {fd : FuncData} {t8 t12 : Tok} (F : Fun K "_is_size" "_is_size" s_is_size_ f fd) (m_MOST_ON_A_SIDE : mg "MOST_ON_A_SIDE" = some (.int 8 t8)) (m_MOST_POINTS : mg "MOST_POINTS" = some (.int 12 t12)) : FnOk P w K mg base CX0 1 f fd ["n", "m"] spIsSize := by
  have r_MOST_ON_A_SIDE : RelV (.int 8) (.int 8 t8) := ⟨_, rfl⟩
  have r_MOST_POINTS : RelV (.int 12) (.int 12 t12) := ⟨_, rfl⟩
  refine F.ok sc_is_size_ (fun vs H Q E h => ?_) (fun cdv A outer s H vs Q E hr h => ?_)
  · obtain ⟨n, m, rfl, _⟩ := h
    rfl
  · obtain ⟨n, m, rfl, q⟩ := h
    refine ⟨_, (pss_one (ps_ret (pe_and (pe_chain op_le op_le pe_int (pv 0) (pe_glob rfl m_MOST_ON_A_SIDE r_MOST_ON_A_SIDE)) (pe_and (pe_chain op_le op_le pe_int (pv 1) (pe_glob rfl m_MOST_ON_A_SIDE r_MOST_ON_A_SIDE)) (pe_one (pe_cmpR op_le (pe_op op_add (pv 0) (pv 1)) (pe_glob rfl m_MOST_POINTS r_MOST_POINTS) (nomark _))))))), ?_⟩
    unfold siz at q
    refine ⟨_, rfl, _, _, rfl, rfl, _, rfl, ?_⟩
    by_cases c0 : 0 ≤ n
    · rw [decide_eq_true c0]
      refine iteT ⟨_, _, rfl, rfl, _, rfl, ?_⟩
      by_cases c1 : n ≤ 8
      · rw [decide_eq_true c1]
        refine iteT ⟨_, rfl, _, _, rfl, rfl, _, rfl, ?_⟩
        by_cases c2 : 0 ≤ m
        · rw [decide_eq_true c2]
          refine iteT ⟨_, _, rfl, rfl, _, rfl, ?_⟩
          by_cases c3 : m ≤ 8
          · rw [decide_eq_true c3]
            refine iteT ⟨_, rfl, _, rfl, _, _, rfl, rfl, _, _, rfl, rfl, ?_⟩
            rwa [show decide (0 ≤ n ∧ n ≤ 8 ∧ 0 ≤ m ∧ m ≤ 8 ∧ n + m ≤ 12) = decide (n + m ≤ 12) from decide_eq_decide.mpr ⟨fun z => z.2.2.2.2, fun z => ⟨c0, c1, c2, c3, z⟩⟩] at q
          · rw [decide_eq_false c3]
            rw [decide_eq_false fun z => c3 z.2.2.2.1] at q
            exact iteF q
        · rw [decide_eq_false c2]
          rw [decide_eq_false fun z => c2 z.2.2.1] at q
          exact iteF ⟨_, rfl, iteF q⟩
      · rw [decide_eq_false c1]
        rw [decide_eq_false fun z => c1 z.2.1] at q
        exact iteF q
    · rw [decide_eq_false c0]
      rw [decide_eq_false fun z => c0 z.1] at q
      exact iteF ⟨_, rfl, iteF q⟩
end

theorem any_nil (bs : List (List Int)) : ((bs.map dT).any fun z => PyData.eqv z (dT [])) = bs.any fun b => decide (b = []) := by
  rw [List.any_map]
  congr 1
  funext b
  exact eqv_dT b []
theorem flat_take {bs : List (List Int)} {i : Nat} {b : List Int} (h : bs[i]? = some b) : (bs.take (i + 1)).flatten = (bs.take i).flatten ++ b := by
  rw [List.take_succ, h, List.flatten_append]
  show _ ++ (b ++ []) = _
  rw [List.append_nil]
theorem mem_len {bs : List (List Int)} {b : List Int} (h : b ∈ bs) : b.length ≤ bs.flatten.length := by
  induction bs with
  | nil => exact nomatch h
  | cons c bs ih =>
    rw [List.flatten_cons, List.length_append]
    rcases List.mem_cons.mp h with rfl | h
    · omega
    · have := ih h
      omega
section
variable {P : Program} {w : World} {K : PySem.W.Frag} {mg : Str → Option Value} {base : Heap}
/-! ### is_diagram -/
def DgOk (n m : Int) (bs : List (List Int)) : Prop := n.natAbs ≤ 1000 ∧ m.natAbs ≤ 1000 ∧ bs.length ≤ 1000 ∧ bs.flatten.length ≤ 10000
def spIsDiagram : Sp := fun vs H Q _ => ∃ (v : V) (n m : Int) (bs : List (List Int)), vs = [v] ∧ DGv H v n m bs ∧ DgOk n m bs ∧ ∀ H', Same H H' → (IsDg n m bs → Q (.bl true) H') ∧ (¬ IsDg n m bs → Q (.bl false) H')
theorem ok_is_diagram {f a_is_size_ : Addr} {fd fd_is_size_ : FuncData} (F : Fun K "is_diagram" "is_diagram" s_is_diagram f fd) (z_len : mg "len" = none) (z_list : mg "list" = none) (z_range : mg "range" = none) (z_sorted : mg "sorted" = none) (z_all : mg "all" = none)
    (G_is_size_ : FnOk P w K mg base CX0 1 a_is_size_ fd_is_size_ ["n", "m"] spIsSize) (g_is_size_ : mg "_is_size" = some (.ref a_is_size_)) (k_is_size_ : PySem.W.keepIn K (.ref a_is_size_) = true) (b_is_size_ : Binds K fd_is_size_ ["n", "m"] []) : FnOk P w K mg base CX0 2 f fd ["diagram"] spIsDiagram := by
  refine F.ok sc_is_diagram (fun vs H Q E h => ?_) (fun cdv A outer s H vs Q E hr h => ?_)
  · obtain ⟨v, n, m, bs, rfl, _⟩ := h
    rfl
  · obtain ⟨v, n, m, bs, rfl, hv, ⟨bn, bm, bl, bf⟩, q⟩ := h
    refine ⟨_, (pss_cons (ps_if (pt_cmpR op_ne (pe_callB call_len_seq (by rfl) z_len boot_len (pa_cons (pv 0) pa_nil)) pe_int (nomark _)) (pss_one (ps_ret pe_bl)) pss_nil)
  (pss_cons (ps_asg (pv 0) (pg_tup rfl (pgs_cons (pg_name (i := 1) sc_is_diagram.nd rfl (.inl rfl)) (pgs_cons (pg_name (i := 2) sc_is_diagram.nd rfl (.inl rfl)) (pgs_cons (pg_name (i := 3) sc_is_diagram.nd rfl (.inl rfl)) pgs_nil)))))
  (pss_cons (ps_if (L2.PW.pt (pw_or (pt_not (pt_val (pe_call G_is_size_ (hr.mono (by decide)) rfl g_is_size_ k_is_size_ b_is_size_ .nil pass0 (pa_cons (pv 1) (pa_cons (pv 2) pa_nil))))) (pw_or1 (pt_cmpR (op_inDT (room65 hr)) (pe_tup pa_nil) (pv 3) (by with_unfolding_all rfl))))) (pss_one (ps_ret pe_bl)) pss_nil)
  (pss_cons (ps_setLc2 (i := 4) (own := [("block", 6), ("point", 7)]) (vs1 := [7]) rfl sc_is_diagram.nd rfl rfl (sw_true rfl rfl rfl (by decide +kernel)) (pi_tup (pv 3)) (blkOk_by (N := ["diagram", "n", "m", "blocks", "points", "firsts", "block", "point"]) (sc := defScope s_is_diagram) (by decide +kernel)) (by decide) (fun _ _ _ _ _ => (pg_name (i := 6) sc_is_diagram.nd rfl (.inl rfl))) (fun _ _ _ _ _ => pts_nil) (fun _ _ _ _ _ => ((pi_tupK (K := K) rfl) (pv 6))) (fun _ _ _ _ _ => (pg_name (i := 7) sc_is_diagram.nd rfl (.inl rfl))) (fun _ _ _ _ _ => pts_nil) (fun _ _ _ _ _ => (pv 7)))
  (pss_cons (ps_if (pt_cmpR (op_neD (room64 hr)) (pe_callB cr_sortedI (by rfl) z_sorted boot_sorted (pa_cons (pv 4) pa_nil)) (pe_listRg rfl rfl z_list (prg_1 rfl z_range (pe_op op_add (pv 1) (pv 2)))) (nomark _)) (pss_one (ps_ret pe_bl)) pss_nil)
  (pss_cons (ps_if (pt_not (pt_val (pe_callB (cr_all rfl) (by rfl) z_all boot_all (pa_cons (pe_lc (own := [("block", 6)]) rfl sc_is_diagram.nd (pi_tup (pv 3)) (blkOk_by (N := ["diagram", "n", "m", "blocks", "points", "firsts", "block", "point"]) (sc := defScope s_is_diagram) (by first | decide +kernel | rfl)) (fun _ _ _ _ _ => (pg_name (i := 6) sc_is_diagram.nd rfl (.inl rfl))) (fun _ _ _ _ _ => pts_nil) (fun _ _ _ _ _ => (pe_cmpR (op_eqDK (K := K) rfl (room64 hr)) (pe_callTy (call_list_ofK (K := K) rfl) (by rfl) z_list boot_list (pa_cons (pv 6) pa_nil)) (pe_callB (cr_sortedITK (K := K) rfl) (by rfl) z_sorted boot_sorted (pa_cons (pv 6) pa_nil)) (nomark _)))) pa_nil)))) (pss_one (ps_ret pe_bl)) pss_nil)
  (pss_cons (ps_setLc (i := 5) (own := [("block", 6)]) rfl sc_is_diagram.nd rfl rfl (sw_true rfl rfl rfl (by decide +kernel)) (pi_tup (pv 3)) (blkOk_by (N := ["diagram", "n", "m", "blocks", "points", "firsts", "block", "point"]) (sc := defScope s_is_diagram) (by first | decide +kernel | rfl)) (fun _ _ _ _ _ => (pg_name (i := 6) sc_is_diagram.nd rfl (.inl rfl))) (fun _ _ _ _ _ => pts_nil) (fun _ _ _ _ _ => (pe_ix (ix_tupK (K := K) rfl) (pv 6) pe_int (fun _ _ => rfl))))
  (pss_one (ps_ret (pe_cmpR (op_eqD (room64 hr)) (pv 5) (pe_callB cr_sortedI (by rfl) z_sorted boot_sorted (pa_cons (pv 5) pa_nil)) (nomark _))))))))))), ?_⟩
    have szl : 20000 ≤ sizeLine := by decide
    obtain ⟨t, vb, rfl, ht, tb, ts, rfl, htb, pr⟩ := hv
    have lts : ts.length = bs.length := pr.length
    refine ⟨_, rfl, t, _, rfl, .inr (.inl (.inl ht)), rfl, _, rfl, ite_same ?_⟩
    refine ⟨_, rfl, t, _, rfl, .inl (.inl ht), rfl, _, _, rfl, _, _, rfl, _, _, rfl, rfl, ?_⟩
    refine ⟨_, rfl, _, rfl, n, m, rfl, _, rfl, ?_⟩
    by_cases cs : siz n m = true
    · rw [cs]
      refine iteF ?_
      have hs := siz_iff.mp cs
      refine ⟨(by show 0 ≤ sizeLine; decide), fun e0 ne0 => ?_⟩
      have s0 : Same H (upd H e0 (.tup [])) := same_upd ne0
      have tt : TT (upd H e0 (.tup [])) (.ref tb) bs := TT.same s0 ⟨tb, ts, rfl, htb, pr⟩
      refine ⟨_, rfl, dT [], bs.map dT, .tup (.inl (.inl upd_same)) .nil, tt.dp, dT_shaped [], dTT_shaped bs, _, rfl, ?_⟩
      rw [any_nil]
      have htb1 : upd H e0 (.tup []) tb = some (.tup ts) := s0 _ _ htb
      have pr1 : Paired (TP (upd H e0 (.tup []))) ts bs := Paired.mapP pr fun _ _ h => h.same s0
      revert s0 htb1 pr1
      generalize upd H e0 (.tup []) = H1
      intro s0 htb1 pr1
      clear tt htb pr
      by_cases cn : (bs.any fun b => decide (b = [])) = true
      · rw [cn]
        refine iteT ((q H1 s0).2 fun z => ?_)
        obtain ⟨b, hb, e⟩ := List.any_eq_true.mp cn
        exact z.ne b hb (of_decide_eq_true e)
      rw [Bool.not_eq_true _ |>.mp cn]
      refine iteF ?_
      have ne : ∀ b ∈ bs, b ≠ [] := fun b hb z => cn (List.any_eq_true.mpr ⟨b, hb, decide_eq_true z⟩)
      -- points
      refine ⟨_, rfl, tb, rfl, ⟨_, .inl (.inl htb1)⟩, fun D nD => ?_⟩
      have keepD : ∀ {H' : Hp} {a : Addr} {o : HO}, SameBut D H1 H' → H1 a = some o → H' a = some o := fun sb e => sb _ _ (ne_of_none e nD) e
      refine outer_it walk_tup (fun i H' => SameBut D H1 H' ∧ H' D = some (.lst ((bs.take i).flatten.map V.int))) ⟨SameBut.upd, upd_same⟩ (fun i H' _ hP => .inl (.inl (keepD hP.1 htb1))) (fun i y H2 H3 hi hP hy => ?_) (fun H2 hP => ?_)
      · obtain ⟨sb, hD⟩ := hP
        obtain ⟨e0, hy⟩ := hy
        subst e0
        obtain ⟨b, eb, a, rfl, ha⟩ := tt_get pr1 hy
        have mb := List.mem_of_getElem? eb
        have lb := mem_len mb
        refine ⟨rfl, ?_⟩
        refine ⟨_, rfl, a, rfl, ⟨_, .inl (.inl (keepD sb ha))⟩, outer_it walk_tup (fun j H' => SameBut D H1 H' ∧ H' D = some (.lst (((bs.take i).flatten ++ b.take j).map V.int))) ⟨sb, by rw [List.take_zero, List.append_nil]; exact hD⟩ (fun j H' _ hP => .inl (.inl (keepD hP.1 ha))) (fun j z H4 H5 hj hP hz => ?_) (fun H4 hP => ?_)⟩
        · obtain ⟨sb, hD⟩ := hP
          obtain ⟨e0, hz⟩ := hz
          subst e0
          rw [List.length_map] at hj
          have ez : (b.map V.int)[j]? = some (.int (co b j)) := by rw [List.getElem?_map, co_get hj]; rfl
          obtain rfl : V.int (co b j) = z := Option.some.inj (ez.symm.trans hz)
          refine ⟨rfl, ?_⟩
          refine ⟨_, rfl, _, hD, ?_, sb.trans SameBut.upd, ?_⟩
          · rw [List.length_map, List.length_append, List.length_take]
            have : (bs.take i).flatten.length ≤ bs.flatten.length := by
              have e : (bs.take i ++ bs.drop i).flatten.length = bs.flatten.length := congrArg (fun l : List (List Int) => l.flatten.length) (List.take_append_drop i bs)
              rw [List.flatten_append, List.length_append] at e
              omega
            omega
          · rw [upd_same, take_snoc hj, ← List.append_assoc, List.map_append (l₂ := [co b j])]
            rfl
        · obtain ⟨sb, hD⟩ := hP
          rw [List.length_map, List.take_length] at hD
          exact ⟨sb, by rw [flat_take eb]; exact hD⟩
      obtain ⟨sb2, hD⟩ := hP
      rw [lts, List.take_length] at hD
      have s2 : Same H1 H2 := fun b o e => keepD sb2 e
      -- sorted
      refine ⟨_, rfl, D, bs.flatten, rfl, .inl (.inl hD), fun ns' p1 pm1 srt1 np1 => ?_⟩
      refine ⟨_, rfl, _, rfl, _, _, rfl, rfl, n + m, rfl, RgOk.of_le (by decide) (by omega) (by decide) (by omega), fun p2 np2 => ?_⟩
      rw [rgV_ixs (by omega)]
      have s3 : Same H2 (upd (upd H2 p1 (.lst (ns'.map V.int))) p2 (.lst ((ixs (n + m).toNat).map V.int))) := Same.trans (same_upd np1) (same_upd np2)
      refine neD_LP (x := ns') (y := ixs (n + m).toNat) ⟨p1, rfl, same_upd np2 _ _ upd_same⟩ ⟨p2, rfl, upd_same⟩ ⟨_, rfl, ?_⟩
      have s13 := Same.trans s0 (Same.trans s2 s3)
      have htb4 := s3 _ _ (s2 _ _ htb1)
      have pr4 := Paired.mapP pr1 fun _ _ h => (TP.same s2 h).same s3
      revert s13 htb4 pr4
      generalize upd (upd H2 p1 (.lst (ns'.map V.int))) p2 (.lst ((ixs (n + m).toNat).map V.int)) = H4
      intro s13 htb4 pr4
      clear s3 s2 hD sb2 keepD nD np1 np2
      by_cases cp : ns' = ixs (n + m).toNat
      · rw [decide_eq_true cp]
        refine iteF ?_
        have pm : bs.flatten.Perm (ixs (n + m).toNat) := cp ▸ pm1.symm
        -- blocks
        refine ⟨_, rfl, tb, rfl, ⟨_, .inl (.inl htb4)⟩, fun D5 nD5 => ?_⟩
        have keep5 : ∀ {H' : Hp} {a : Addr} {o : HO}, SameBut D5 H4 H' → H4 a = some o → H' a = some o := fun sb e => sb _ _ (ne_of_none e nD5) e
        refine lc_it walk_tup (fun i H' => SameBut D5 H4 H' ∧ H' D5 = some (.lst (((bs.take i).map fun b => decide (b.Pairwise (· ≤ ·))).map V.bl))) ⟨SameBut.upd, upd_same⟩ (fun i H' _ hP => .inl (.inl (keep5 hP.1 htb4))) (fun i y H5 H6 hi hP hy => ?_) (fun H5 hP => ?_)
        · obtain ⟨sb, hD⟩ := hP
          obtain ⟨e0, hy⟩ := hy
          subst e0
          obtain ⟨b, eb, a, rfl, ha⟩ := tt_get pr4 hy
          refine ⟨rfl, ?_⟩
          have ha5 := keep5 sb ha
          refine ⟨_, rfl, a, _, rfl, .inr (.inl (.inl ha5)), fun l1 nl1 => ?_⟩
          refine ⟨_, rfl, a, b, rfl, .inl (.inl (same_upd nl1 _ _ ha5)), fun ns p pm srt np => ?_⟩
          refine eqD_LP (x := b) (y := ns) ⟨l1, rfl, same_upd np _ _ upd_same⟩ ⟨p, rfl, upd_same⟩ ?_
          have sN := Same.trans (same_upd (o := .lst (b.map V.int)) nl1) (same_upd (o := .lst (ns.map V.int)) np)
          have e : decide (b = ns) = decide (b.Pairwise (· ≤ ·)) := decide_eq_decide.mpr ⟨fun z => by rw [z]; exact srt, fun z => sorted_same pm.symm z srt⟩
          refine ⟨_, sN _ _ hD, by rw [List.length_map, List.length_map, List.length_take]; omega, (sb.trans (Same.but sN)).trans SameBut.upd, ?_⟩
          rw [upd_same, List.take_succ, eb, e, List.map_append, List.map_append]
          rfl
        obtain ⟨sb5, hD5⟩ := hP
        rw [lts, List.take_length] at hD5
        have s5 : Same H4 H5 := fun b o e => keep5 sb5 e
        refine ⟨D5, _, rfl, .inl (.inl hD5), _, rfl, ?_⟩
        have htb5 := s5 _ _ htb4
        have pr5 := Paired.mapP pr4 fun _ _ h => TP.same s5 h
        have s15 := Same.trans s13 s5
        by_cases ca : ((bs.map fun b => decide (b.Pairwise (· ≤ ·))).all id) = true
        · rw [ca]
          refine iteF ?_
          have asc : ∀ b ∈ bs, b.Pairwise (· ≤ ·) := fun b hb => of_decide_eq_true (List.all_eq_true.mp ca _ (List.mem_map_of_mem hb))
          -- firsts
          refine ⟨_, rfl, tb, rfl, ⟨_, .inl (.inl htb5)⟩, fun D6 nD6 => ?_⟩
          have keep6 : ∀ {H' : Hp} {a : Addr} {o : HO}, SameBut D6 H5 H' → H5 a = some o → H' a = some o := fun sb e => sb _ _ (ne_of_none e nD6) e
          refine lc_it walk_tup (fun i H' => SameBut D6 H5 H' ∧ H' D6 = some (.lst (((bs.take i).map fun b => co b 0).map V.int))) ⟨SameBut.upd, upd_same⟩ (fun i H' _ hP => .inl (.inl (keep6 hP.1 htb5))) (fun i y H6 H7 hi hP hy => ?_) (fun H6 hP => ?_)
          · obtain ⟨sb, hD⟩ := hP
            obtain ⟨e0, hy⟩ := hy
            subst e0
            obtain ⟨b, eb, a, rfl, ha⟩ := tt_get pr5 hy
            have nb := List.length_pos_iff.mpr (ne b (List.mem_of_getElem? eb))
            refine ⟨rfl, ?_⟩
            refine ⟨_, rfl, a, _, 0, _, rfl, rfl, .inl (.inl (keep6 sb ha)), at_co nb, _, hD, by rw [List.length_map, List.length_map, List.length_take]; omega, sb.trans SameBut.upd, ?_⟩
            rw [upd_same, List.take_succ, eb, List.map_append, List.map_append]
            rfl
          obtain ⟨sb6, hD6⟩ := hP
          rw [lts, List.take_length] at hD6
          have s6 : Same H5 H6 := fun b o e => keep6 sb6 e
          refine ⟨_, rfl, _, rfl, D6, _, rfl, .inl (.inl hD6), fun ns p pm6 srt np => ?_⟩
          refine eqD_LP (x := bs.map fun b => co b 0) (y := ns) ⟨D6, rfl, same_upd np _ _ hD6⟩ ⟨p, rfl, upd_same⟩ ?_
          obtain ⟨qt, qf⟩ := q _ (Same.trans s15 (Same.trans s6 (same_upd np)))
          by_cases ch : (bs.map fun b => co b 0) = ns
          · rw [decide_eq_true ch]
            exact qt ⟨cs, ne, pm, asc, ch ▸ srt⟩
          · rw [decide_eq_false ch]
            exact qf fun z => ch (sorted_same pm6.symm z.hd srt)
        · rw [Bool.not_eq_true _ |>.mp ca]
          refine iteT ((q H5 s15).2 fun z => ca (List.all_eq_true.mpr fun c hc => ?_))
          obtain ⟨b, hb, rfl⟩ := List.mem_map.mp hc
          exact decide_eq_true (z.asc b hb)
      · rw [decide_eq_false cp]
        exact iteT ((q H4 s13).2 fun z => cp (sorted_same (pm1.trans z.pm) srt1 (ixs_asc _)))
    · rw [Bool.not_eq_true _ |>.mp cs]
      exact iteT ((q H (Same.refl _)).2 fun z => cs z.sz)
end

section
variable {P : Program} {w : World} {K : PySem.W.Frag} {mg : Str → Option Value} {base : Heap}
/-! ### check_diagram, labels -/
def spCheckDiagram (CD : Addr) : Sp := fun vs H Q E => ∃ (v : V) (n m : Int) (bs : List (List Int)), vs = [v] ∧ DGv H v n m bs ∧ DgOk n m bs ∧ ∀ H', Same H H' → (IsDg n m bs → Q .non H') ∧ (¬ IsDg n m bs → E (.ref CD) none H')
theorem ok_check_diagram {f CD a_is_diagram : Addr} {fd fd_is_diagram : FuncData} (F : Fun K "check_diagram" "check_diagram" s_check_diagram f fd) (T : ErrC K mg "NotDiagram" CD)
    (G_is_diagram : FnOk P w K mg base CX0 2 a_is_diagram fd_is_diagram ["diagram"] spIsDiagram) (g_is_diagram : mg "is_diagram" = some (.ref a_is_diagram)) (k_is_diagram : PySem.W.keepIn K (.ref a_is_diagram) = true) (b_is_diagram : Binds K fd_is_diagram ["diagram"] []) :
    FnOk P w K mg base (L2N.CX P w) 3 f fd ["diagram"] (spCheckDiagram CD) := by
  obtain ⟨gc_NotDiagram, x_NotDiagram, kc_NotDiagram, bc_NotDiagram, tc_NotDiagram⟩ := T
  refine F.okXN sc_check_diagram (fun vs H Q E h => ?_) (fun cdv A outer s H vs Q E hr h => ?_)
  · obtain ⟨v, n, m, bs, rfl, _⟩ := h
    rfl
  · obtain ⟨v, n, m, bs, rfl, hv, hb, q⟩ := h
    refine ⟨_, (pss_one (ps_if (pt_not (pt_val (pe_call G_is_diagram (hr.mono (by decide)) rfl g_is_diagram k_is_diagram b_is_diagram .nil pass0 (pa_cons (pv 0) pa_nil)))) (pss_one (L2N.ps_raise rfl (L2N.takes_of rfl rfl rfl rfl) (L2N.pmk_own PySem.F.excBase_ValueError x_NotDiagram gc_NotDiagram kc_NotDiagram (raises_own bc_NotDiagram tc_NotDiagram) rfl))) pss_nil)), ?_⟩
    exact ⟨_, rfl, v, n, m, bs, rfl, hv, hb, fun H' s' => ⟨fun h => ⟨_, rfl, iteF ((q H' s').1 h)⟩, fun h => ⟨_, rfl, iteT ((q H' s').2 h)⟩⟩⟩
end
def labN (bs : List (List Int)) (i : Nat) (N : Nat) : List Int := labFrom (bs.take i) 0 (List.replicate N 0)
theorem labFrom_snoc : ∀ (bs : List (List Int)) (b : List Int) (k : Nat) (ms : List Int), labFrom (bs ++ [b]) k ms = b.foldl (fun ms p => ms.set p.toNat ((k + bs.length : Nat) : Int)) (labFrom bs k ms)
  | [], b, k, ms => rfl
  | c :: bs, b, k, ms => by
    show labFrom (bs ++ [b]) (k + 1) _ = _
    rw [labFrom_snoc bs b (k + 1), show k + 1 + bs.length = k + (c :: bs).length by rw [List.length_cons]; omega]
    rfl
theorem fold_take {k : Int} {b ms : List Int} {j : Nat} (h : j < b.length) : (b.take (j + 1)).foldl (fun ms p => ms.set p.toNat k) ms = ((b.take j).foldl (fun ms p => ms.set p.toNat k) ms).set (co b j).toNat k := by
  rw [take_snoc h, List.foldl_append]
  rfl
theorem dg_pt {n m : Int} {bs : List (List Int)} (h : IsDg n m bs) {b : List Int} (hb : b ∈ bs) {p : Int} (hp : p ∈ b) : 0 ≤ p ∧ p < n + m := by
  have h1 := h.pm.mem_iff.mp (List.mem_flatten.mpr ⟨b, hb, hp⟩)
  obtain ⟨i, hi, rfl⟩ := List.mem_map.mp h1
  have := List.mem_range.mp hi
  omega

theorem posOf_take {marks : List Int} {i : Nat} (h : i < marks.length) (v : Int) : posOf (marks.take (i + 1)) v = if co marks i = v then posOf (marks.take i) v ++ [(i : Int)] else posOf (marks.take i) v := by
  have l1 : (marks.take (i + 1)).length = i + 1 := by rw [List.length_take]; omega
  have l0 : (marks.take i).length = i := by rw [List.length_take]; omega
  have c1 : ∀ j, j < i → co (marks.take (i + 1)) j = co (marks.take i) j := fun j hj => by
    unfold co
    rw [List.getD_eq_getElem?_getD, List.getD_eq_getElem?_getD, List.getElem?_take_of_lt (by omega), List.getElem?_take_of_lt hj]
  have c2 : co (marks.take (i + 1)) i = co marks i := by
    unfold co
    rw [List.getD_eq_getElem?_getD, List.getD_eq_getElem?_getD, List.getElem?_take_of_lt (by omega)]
  unfold posOf
  rw [l1, l0, List.range_succ, List.filter_append, List.map_append]
  have e : (List.range i).filter (fun j => decide (co (marks.take (i + 1)) j = v)) = (List.range i).filter fun j => decide (co (marks.take i) j = v) :=
    List.filter_congr fun j hj => by rw [c1 j (List.mem_range.mp hj)]
  rw [e, List.filter_cons, c2]
  by_cases c : co marks i = v
  · rw [if_pos c, decide_eq_true c]
    rfl
  · rw [if_neg c, decide_eq_false c]
    exact List.append_nil _
theorem posOf_none {marks : List Int} {v : Int} (h : v ∉ marks) : posOf marks v = [] := by
  refine List.eq_nil_iff_forall_not_mem.mpr fun x hx => ?_
  obtain ⟨i, _, hi, e⟩ := mem_posOf.mp hx
  exact h (e ▸ co_mem hi)
/-- a dict by integers -/
def KR (H : Hp) (f : Int → List Int) (kv : Key × V) (u : Int) : Prop := kv.1 = Sum.inl u ∧ TP H kv.2 (f u)
theorem kr_get {H : Hp} {f : Int → List Int} {v : Int} : ∀ {kvs : List (Key × V)} {vs : List Int}, Paired (KR H f) kvs vs → (v ∈ vs → ∃ w, valV kvs (Sum.inl v : Key) = some w ∧ TP H w (f v)) ∧ (v ∉ vs → valV kvs (Sum.inl v : Key) = none)
  | _, _, .nil => ⟨fun h => (nomatch h), fun _ => rfl⟩
  | kv :: kvs, u :: vs, .cons ⟨e, t⟩ pr => by
    obtain ⟨a, b⟩ := kr_get (v := v) pr
    by_cases c : u = v
    · refine ⟨fun _ => ⟨kv.2, valV_pos (by rw [e, c]), by rw [← c]; exact t⟩, fun h => absurd (List.mem_cons.mpr (.inl c.symm)) h⟩
    · have ne : ¬ kv.1 = (Sum.inl v : Key) := fun z => c (Sum.inl.inj (e.symm.trans z))
      refine ⟨fun h => ?_, fun h => ?_⟩
      · rw [valV_neg ne]
        exact a ((List.mem_cons.mp h).resolve_left fun z => c z.symm)
      · rw [valV_neg ne]
        exact b fun z => h (List.mem_cons_of_mem _ z)
theorem kr_map {H : Hp} {f g : Int → List Int} {v : Int} {w : V} (hw : TP H w (g v)) (hg : ∀ u, u ≠ v → g u = f u) : ∀ {kvs : List (Key × V)} {vs : List Int}, Paired (KR H f) kvs vs → Paired (KR H g) (kvs.map fun kv => if kv.1 = (Sum.inl v : Key) then (kv.1, w) else kv) vs
  | _, _, .nil => .nil
  | kv :: kvs, u :: vs, .cons ⟨e, t⟩ pr => by
    rw [List.map_cons]
    refine .cons ?_ (kr_map hw hg pr)
    by_cases c : u = v
    · rw [if_pos (by rw [e, c])]
      exact ⟨e, by rw [c]; exact hw⟩
    · rw [if_neg fun z => c (Sum.inl.inj (e.symm.trans z))]
      exact ⟨e, by rw [hg u c]; exact t⟩
theorem kr_put {H : Hp} {f g : Int → List Int} {v : Int} {w : V} {kvs : List (Key × V)} {vs : List Int} (pr : Paired (KR H f) kvs vs) (hw : TP H w (g v)) (hg : ∀ u, u ≠ v → g u = f u) :
    Paired (KR H g) (putK kvs (Sum.inl v : Key) w) (if v ∈ vs then vs else vs ++ [v]) := by
  obtain ⟨a, b⟩ := kr_get (v := v) pr
  by_cases c : v ∈ vs
  · rw [if_pos c]
    obtain ⟨x, hx, _⟩ := a c
    unfold putK
    rw [if_pos (by rw [valV_any, hx]; rfl)]
    exact kr_map hw hg pr
  · rw [if_neg c, putK_new _ (b c)]
    refine paired_snoc ⟨rfl, hw⟩ ?_
    have e : (kvs.map fun kv => if kv.1 = (Sum.inl v : Key) then (kv.1, w) else kv) = kvs := by
      conv => rhs; rw [← List.map_id kvs]
      refine List.map_congr_left fun kv hkv => ?_
      have : (kvs.any fun kv => decide (kv.1 = (Sum.inl v : Key))) = false := by rw [valV_any, b c]; rfl
      have h1 := List.any_eq_false.mp this kv hkv
      rw [if_neg fun z => h1 (decide_eq_true z)]
      rfl
    have := kr_map hw hg pr
    rwa [e] at this
theorem kr_vals {H : Hp} {f : Int → List Int} : ∀ {kvs : List (Key × V)} {vs : List Int}, Paired (KR H f) kvs vs → Paired (TP H) (kvs.map (·.2)) (vs.map f)
  | _, _, .nil => .nil
  | _, _, .cons ⟨_, t⟩ pr => .cons t (kr_vals pr)
def rCatC : R2 := fun x y H Q => ∃ a b xs ys, x = .ref a ∧ y = .ref b ∧ H a = some (.tup xs) ∧ H b = some (.tup ys) ∧ xs.length + ys.length ≤ sizeLine ∧ ∀ p H', Same H H' → H' p = some (.tup (xs ++ ys)) → Q (.ref p) H'
theorem op_catC {X : Cx} : OpR X (binaryOp .Add) rCatC := by
  intro pins s σ H x y v u Q I rx ry h
  obtain ⟨a, b, xs, ys, rfl, rfl, ha, hb, hz, q⟩ := h
  refine op_catA pins s σ H _ _ v u Q I rx ry ⟨a, b, xs, ys, rfl, rfl, .inl (.inl ha), .inl (.inl hb), hz, fun e => ?_, fun _ e => ?_, fun _ _ p np => ?_⟩
  · exact q b H (Same.refl _) (by rw [e, List.nil_append]; exact hb)
  · exact q a H (Same.refl _) (by rw [e, List.append_nil]; exact ha)
  · exact q p _ (same_upd np) upd_same

/-! ### marks as they are drawn -/
def Strand (n : Nat) (l : List Int) : Prop := ∀ p q : Nat, p < q → q < l.length → co l p = co l q → p < n ∧ n ≤ q
def Mated (l : List Int) : Prop := ∀ p : Nat, p < l.length → ∃ q, q < l.length ∧ q ≠ p ∧ co l q = co l p
structure FamM (z : Str) (n m : Nat) (l : List Int) : Prop where
  st : z = "threads" ∨ z = "loose" → Strand n l
  ma : z = "threads" → n = m → Mated l
  pa : z = "pairs" → (n + m) % 2 = 0 → ∀ v ∈ l, l.count v = 2
  lo : z = "lonepairs" → ∀ v, l.count v ≤ 2
  ev : z = "even" → (n + m) % 2 = 0 → ∀ v, l.count v % 2 = 0
theorem mem_ixs {N : Nat} {x : Int} : x ∈ ixs N ↔ 0 ≤ x ∧ x < (N : Int) := by
  unfold ixs
  rw [List.mem_map]
  constructor
  · rintro ⟨i, hi, rfl⟩
    have := List.mem_range.mp hi
    omega
  · rintro ⟨h0, h1⟩
    exact ⟨x.toNat, List.mem_range.mpr (by omega), by omega⟩
theorem ixs_len' (N : Nat) : (ixs N).length = N := by
  unfold ixs
  rw [List.length_map, List.length_range]
theorem co_ixs {N i : Nat} (h : i < N) : co (ixs N) i = (i : Int) := by
  have e := co_get (l := ixs N) (k := i) (by rw [ixs_len']; exact h)
  unfold ixs at e ⊢
  rw [List.getElem?_map, List.getElem?_range h] at e
  exact (Option.some.inj e).symm
theorem ixs_nodup (N : Nat) : (ixs N).Nodup := by
  unfold ixs
  exact List.pairwise_map.mpr ((range_lt N).imp fun {a b} h => by omega)
theorem co_app_l {a b : List Int} {i : Nat} (h : i < a.length) : co (a ++ b) i = co a i := by
  have e := co_get (l := a ++ b) (k := i) (by rw [List.length_append]; omega)
  rw [List.getElem?_append_left h, co_get h] at e
  exact (Option.some.inj e).symm
theorem co_app_r {a b : List Int} {i : Nat} (h : i < b.length) : co (a ++ b) (a.length + i) = co b i := by
  have e := co_get (l := a ++ b) (k := a.length + i) (by rw [List.length_append]; omega)
  rw [List.getElem?_append_right (by omega), show a.length + i - a.length = i by omega, co_get h] at e
  exact (Option.some.inj e).symm
theorem nodup_erase {l : List Int} (h : l.Nodup) {k : Nat} (hk : k < l.length) {y : Int} (hy : y ∈ l.eraseIdx k) : y ∈ l ∧ y ≠ co l k := by
  refine ⟨List.mem_of_mem_eraseIdx hy, fun e => ?_⟩
  obtain ⟨j, hj⟩ := List.mem_eraseIdx_iff_getElem?.mp hy
  have e2 := co_get hk
  rw [← e] at e2
  have lj := (List.getElem?_eq_some_iff.mp hj.2)
  obtain ⟨lj1, lj2⟩ := lj
  obtain ⟨lk1, lk2⟩ := List.getElem?_eq_some_iff.mp e2
  exact hj.1 ((List.getElem_inj h).mp (lj2.trans lk2.symm))
theorem mem_erase_ne {l : List Int} {k : Nat} (hk : k < l.length) {y : Int} (hy : y ∈ l) (ne : y ≠ co l k) : y ∈ l.eraseIdx k := by
  obtain ⟨j, hj, e⟩ := mem_get hy
  refine List.mem_eraseIdx_iff_getElem?.mpr ⟨j, fun c => ne ?_, ?_⟩
  · rw [← e, c]
  · rw [co_get hj, e]
/-- while marks are threaded -/
structure ThrI (n m i : Nat) (l ls : List Int) : Prop where
  len : l.length = n + m
  up : ∀ p : Nat, p < n → co l p = p
  low : ∀ j : Nat, j < m → co l (n + j) = -1 - (j : Int) ∨ (0 ≤ co l (n + j) ∧ co l (n + j) < i)
  dis : ∀ j j' : Nat, j < j' → j' < m → co l (n + j) ≠ co l (n + j')
  nd : ls.Nodup
  free : ∀ x ∈ ls, ∃ j : Nat, x = j ∧ j < m ∧ co l (n + j) = -1 - (j : Int)
  rest : ∀ j : Nat, j < m → (j : Int) ∉ ls → 0 ≤ co l (n + j)
  cap : ls.length ≤ m
structure ThrT (n m i : Nat) (l ls : List Int) : Prop where
  many : ls.length = m - i
  hit : ∀ a : Nat, a < i → ∃ j, j < m ∧ co l (n + j) = a
theorem ThrI.skip {n m i : Nat} {l ls : List Int} (h : ThrI n m i l ls) : ThrI n m (i + 1) l ls :=
  ⟨h.len, h.up, fun j hj => (h.low j hj).imp_right fun z => ⟨z.1, by omega⟩, h.dis, h.nd, h.free, h.rest, h.cap⟩
theorem thr_at {n m i : Nat} {l ls : List Int} (h : ThrI n m i l ls) {k : Nat} (hk : k < ls.length) : ∃ j : Nat, co ls k = j ∧ j < m ∧ co l (n + j) = -1 - (j : Int) := h.free _ (co_mem hk)
theorem ThrI.step {n m i : Nat} {l ls : List Int} (h : ThrI n m i l ls) {k j : Nat} (hk : k < ls.length) (hj : j < m) (ej : co ls k = j) : ThrI n m (i + 1) (l.set (n + j) (i : Int)) (ls.eraseIdx k) := by
  have hl := h.len
  have c : ∀ p : Nat, co (l.set (n + j) (i : Int)) p = if p = n + j then (i : Int) else co l p := fun p => co_set p (by omega)
  refine ⟨by rw [List.length_set]; exact hl, fun p hp => ?_, fun j' hj' => ?_, fun j1 j2 h1 h2 => ?_, h.nd.sublist (List.eraseIdx_sublist _ _), fun x hx => ?_, fun j' hj' hn => ?_, by rw [List.length_eraseIdx_of_lt hk]; have := h.cap; omega⟩
  · rw [c, if_neg (by omega)]
    exact h.up p hp
  · rw [c]
    by_cases e : j' = j
    · rw [if_pos (by omega)]
      exact .inr ⟨by omega, by omega⟩
    · rw [if_neg (by omega)]
      exact (h.low j' hj').imp_right fun z => ⟨z.1, by omega⟩
  · rw [c, c]
    have d := h.dis j1 j2 h1 h2
    have l1 := h.low j1 (by omega)
    have l2 := h.low j2 (by omega)
    by_cases e1 : j1 = j
    · rw [if_pos (by omega), if_neg (by omega)]
      omega
    · rw [if_neg (by omega)]
      by_cases e2 : j2 = j
      · rw [if_pos (by omega)]
        omega
      · rw [if_neg (by omega)]
        exact d
  · obtain ⟨hx1, hx2⟩ := nodup_erase h.nd hk hx
    obtain ⟨j', e1, e2, e3⟩ := h.free x hx1
    refine ⟨j', e1, e2, ?_⟩
    rw [c, if_neg (by omega)]
    exact e3
  · rw [c]
    by_cases e : j' = j
    · rw [if_pos (by omega)]
      omega
    · rw [if_neg (by omega)]
      exact h.rest j' hj' fun z => hn (mem_erase_ne hk z (by rw [ej]; omega))
theorem ThrT.step {n m i : Nat} {l ls : List Int} (h : ThrI n m i l ls) (t : ThrT n m i l ls) {k j : Nat} (hk : k < ls.length) (hj : j < m) (ej : co ls k = j) : ThrT n m (i + 1) (l.set (n + j) (i : Int)) (ls.eraseIdx k) := by
  have hl := h.len
  have c : ∀ p : Nat, co (l.set (n + j) (i : Int)) p = if p = n + j then (i : Int) else co l p := fun p => co_set p (by omega)
  refine ⟨by rw [List.length_eraseIdx_of_lt hk, t.many]; omega, fun a ha => ?_⟩
  by_cases e : a = i
  · exact ⟨j, hj, by rw [c, if_pos rfl, e]⟩
  · obtain ⟨j', h1, h2⟩ := t.hit a (by omega)
    refine ⟨j', h1, ?_⟩
    rw [c, if_neg]
    · exact h2
    · intro z
      obtain ⟨j3, e3, _, e4⟩ := thr_at h hk
      rw [z] at h2
      rw [ej] at e3
      have : j3 = j := by omega
      rw [this] at e4
      omega
theorem ThrI.strand {n m i : Nat} {l ls : List Int} (h : ThrI n m i l ls) : Strand n l := by
  intro p q hpq hq e
  have hl := h.len
  rcases Nat.lt_or_ge q n with c | c
  · rw [h.up p (by omega), h.up q c] at e
    omega
  · refine ⟨?_, c⟩
    rcases Nat.lt_or_ge p n with c2 | c2
    · exact c2
    · refine absurd ?_ (h.dis (p - n) (q - n) (by omega) (by omega))
      rw [show n + (p - n) = p by omega, show n + (q - n) = q by omega]
      exact e
theorem ThrI.mated {n : Nat} {l ls : List Int} (h : ThrI n n n l ls) (t : ThrT n n n l ls) : Mated l := by
  intro p hp
  have hl := h.len
  have e0 : ls = [] := List.length_eq_zero_iff.mp (by rw [t.many]; omega)
  rcases Nat.lt_or_ge p n with c | c
  · obtain ⟨j, hj, e⟩ := t.hit p c
    exact ⟨n + j, by omega, by omega, by rw [e, h.up p c]⟩
  · have r := h.rest (p - n) (by omega) (by rw [e0]; exact fun z => nomatch z)
    have lo := h.low (p - n) (by omega)
    rw [show n + (p - n) = p by omega] at r lo
    refine ⟨(co l p).toNat, by omega, by omega, ?_⟩
    rw [h.up _ (by omega)]
    omega
/-- while marks are paired -/
structure PrI (lone : Bool) (N i : Nat) (l ls : List Int) : Prop where
  len : l.length = N
  nd : ls.Nodup
  free : ∀ x ∈ ls, ∃ p : Nat, x = p ∧ p < N ∧ co l p = x ∧ l.count x = 1
  rest : ∀ v, v ∉ ls → l.count v = 0 ∨ l.count v = 2 ∨ (lone = true ∧ l.count v = 1)
  many : lone = false → ls.length + 2 * i = N
  cap : ls.length ≤ N
theorem count_ixs {N : Nat} {x : Int} (h : x ∈ ixs N) : (ixs N).count x = 1 := (ixs_nodup N).count.trans (if_pos h)
theorem PrI.start (lone : Bool) (N : Nat) : PrI lone N 0 (ixs N) (ixs N) :=
  ⟨ixs_len' N, ixs_nodup N, fun x hx => ⟨x.toNat, by have := mem_ixs.mp hx; omega, by have := mem_ixs.mp hx; omega, by have := mem_ixs.mp hx; rw [co_ixs (by omega)]; omega, count_ixs hx⟩, fun v hv => .inl (List.count_eq_zero.mpr hv), fun _ => ixs_len' N, Nat.le_of_eq (ixs_len' N)⟩
theorem PrI.step {lone : Bool} {N i : Nat} {l ls : List Int} {one : Int} (h : PrI lone N i l (one :: ls)) {k p : Nat} (hk : k < ls.length) (hp : p < N) (ep : co ls k = p) : PrI lone N (i + 1) (l.set p one) (ls.eraseIdx k) := by
  obtain ⟨n1, n2⟩ := List.nodup_cons.mp h.nd
  have mx := co_mem hk
  obtain ⟨p', e1, e2, e3, e4⟩ := h.free (co ls k) (List.mem_cons_of_mem _ mx)
  obtain rfl : p' = p := by omega
  have hl := h.len
  have nx : one ≠ co ls k := fun z => n1 (z ▸ mx)
  obtain ⟨po, o1, o2, o3, o4⟩ := h.free one List.mem_cons_self
  have g : l[p']'(by omega) = co ls k := by
    have := co_get (l := l) (k := p') (by omega)
    rw [List.getElem?_eq_getElem (by omega)] at this
    rw [Option.some.inj this, e3]
  have cs : ∀ b, (l.set p' one).count b = l.count b - (if co ls k = b then 1 else 0) + (if one = b then 1 else 0) := by
    intro b
    rw [List.count_set (by omega), g]
    simp only [beq_iff_eq]
  refine ⟨by rw [List.length_set]; exact hl, n2.sublist (List.eraseIdx_sublist _ _), fun y hy => ?_, fun v hv => ?_, fun e => ?_, by have := h.cap; rw [List.length_cons] at this; rw [List.length_eraseIdx_of_lt hk]; omega⟩
  · obtain ⟨h1, h2⟩ := nodup_erase n2 hk hy
    obtain ⟨q, f1, f2, f3, f4⟩ := h.free y (List.mem_cons_of_mem _ h1)
    refine ⟨q, f1, f2, ?_, ?_⟩
    · rw [co_set q (by omega), if_neg (by omega)]
      exact f3
    · rw [cs, if_neg (Ne.symm h2), if_neg (show ¬ one = y from fun z => n1 (z ▸ h1))]
      exact f4
  · rw [cs]
    by_cases c1 : one = v
    · rw [if_pos c1, if_neg fun z => nx (c1.trans z.symm), ← c1, o4]
      exact .inr (.inl rfl)
    · rw [if_neg c1]
      by_cases c2 : co ls k = v
      · rw [if_pos c2, ← c2, e4]
        exact .inl rfl
      · rw [if_neg c2]
        exact h.rest v fun z => by
          rcases List.mem_cons.mp z with z | z
          · exact c1 z.symm
          · exact hv (mem_erase_ne hk z (Ne.symm c2))
  · have := h.many e
    rw [List.length_cons] at this
    rw [List.length_eraseIdx_of_lt hk]
    omega
theorem PrI.skip {N i : Nat} {l ls : List Int} {one : Int} (h : PrI true N i l (one :: ls)) : PrI true N (i + 1) l ls := by
  obtain ⟨n1, n2⟩ := List.nodup_cons.mp h.nd
  refine ⟨h.len, n2, fun y hy => h.free y (List.mem_cons_of_mem _ hy), fun v hv => ?_, (fun e => nomatch e), by have := h.cap; rw [List.length_cons] at this; omega⟩
  by_cases c : v = one
  · obtain ⟨_, _, _, _, e⟩ := h.free one List.mem_cons_self
    exact .inr (.inr ⟨rfl, c ▸ e⟩)
  · exact h.rest v fun z => (List.mem_cons.mp z).elim c hv
theorem PrI.two {N i : Nat} {l ls : List Int} (h : PrI false N i l ls) (e : ls.length < 2 ∨ i = N) (hN : N % 2 = 0) (v : Int) : l.count v = 0 ∨ l.count v = 2 := by
  have m := h.many rfl
  have e0 : ls = [] := List.length_eq_zero_iff.mp (by omega)
  rcases h.rest v (by rw [e0]; exact fun z => nomatch z) with h | h | h
  · exact .inl h
  · exact .inr h
  · exact nomatch h.1
theorem PrI.most {lone : Bool} {N i : Nat} {l ls : List Int} (h : PrI lone N i l ls) (v : Int) : l.count v ≤ 2 := by
  by_cases c : v ∈ ls
  · obtain ⟨_, _, _, _, e⟩ := h.free v c
    omega
  · rcases h.rest v c with h | h | h <;> omega
/-- two marks joined -/
def jn (l : List Int) (x y : Nat) : List Int := l.map fun c => if c = (if co l y > co l x then co l y else co l x) then (if co l y < co l x then co l y else co l x) else c
theorem jn_len (l : List Int) (x y : Nat) : (jn l x y).length = l.length := List.length_map ..
theorem count_merge (lo hi v : Int) : ∀ l : List Int, (l.map fun c => if c = hi then lo else c).count v = if v = lo then l.count lo + (if hi = lo then 0 else l.count hi) else if v = hi then 0 else l.count v
  | [] => by simp
  | a :: l => by
    rw [List.map_cons, List.count_cons, count_merge lo hi v l, List.count_cons, List.count_cons, List.count_cons]
    simp only [beq_iff_eq]
    by_cases c1 : v = lo
    · subst c1
      rw [if_pos rfl, if_pos rfl]
      by_cases c2 : hi = v
      · subst c2
        rw [if_pos rfl, if_pos rfl]
        by_cases c3 : a = hi <;> simp [c3]
      · rw [if_neg c2, if_neg c2]
        by_cases c3 : a = hi
        · subst c3
          rw [if_pos rfl, if_pos rfl, if_neg c2]
          simp
          omega
        · rw [if_neg c3]
          by_cases c4 : a = v
          · simp [c4]
            rw [if_neg (fun z => c3 (c4.trans z))]
            omega
          · simp [c4, c3]
    · rw [if_neg c1, if_neg c1]
      by_cases c2 : v = hi
      · subst c2
        rw [if_pos rfl, if_pos rfl]
        by_cases c3 : a = v
        · rw [if_pos c3, if_neg (Ne.symm c1)]
        · rw [if_neg c3, if_neg c3]
      · rw [if_neg c2, if_neg c2]
        by_cases c3 : a = hi
        · rw [if_pos c3, if_neg (Ne.symm c1), if_neg]
          intro z
          exact c2 (z.symm.trans c3)
        · rw [if_neg c3]
theorem jn_even {l : List Int} {x y : Nat} (h : ∀ v, l.count v % 2 = 0) (v : Int) : (jn l x y).count v % 2 = 0 := by
  unfold jn
  rw [count_merge]
  have h1 := h (if co l y < co l x then co l y else co l x)
  have h2 := h (if co l y > co l x then co l y else co l x)
  have h3 := h v
  revert h1 h2
  generalize (if co l y < co l x then co l y else co l x) = lo
  generalize (if co l y > co l x then co l y else co l x) = hi
  intro h1 h2
  by_cases c1 : v = lo
  · rw [if_pos c1]
    by_cases c2 : hi = lo
    · rw [if_pos c2]
      omega
    · rw [if_neg c2]
      omega
  · rw [if_neg c1]
    by_cases c2 : v = hi
    · rw [if_pos c2]
    · rw [if_neg c2]
      exact h3

/-! ### tuples of tuples, put together and cut -/
theorem paired_drop {α β : Type} {F : α → β → Prop} : ∀ {l : List α} {m : List β} (i : Nat), Paired F l m → Paired F (l.drop i) (m.drop i)
  | _, _, 0, h => h
  | _, _, _ + 1, .nil => .nil
  | _, _, i + 1, .cons _ h => paired_drop i h
theorem paired_take {α β : Type} {F : α → β → Prop} : ∀ {l : List α} {m : List β} (i : Nat), Paired F l m → Paired F (l.take i) (m.take i)
  | _, _, 0, _ => .nil
  | _, _, _ + 1, .nil => .nil
  | _, _, i + 1, .cons a h => .cons a (paired_take i h)
theorem paired_app {α β : Type} {F : α → β → Prop} : ∀ {l l' : List α} {m m' : List β}, Paired F l m → Paired F l' m' → Paired F (l ++ l') (m ++ m')
  | _, _, _, _, .nil, h => h
  | _, _, _, _, .cons a h, h' => .cons a (paired_app h h')
theorem paired_rev {α β : Type} {F : α → β → Prop} : ∀ {l : List α} {m : List β}, Paired F l m → Paired F l.reverse m.reverse
  | _, _, .nil => .nil
  | _, _, .cons a h => by
    rw [List.reverse_cons, List.reverse_cons]
    exact paired_app (paired_rev h) (.cons a .nil)
def cutL {α : Type} (xs : List α) (lo hi : Option Int) : List α := (xs.drop (HT.sIx xs.length 0 lo)).take (HT.sIx xs.length xs.length hi - HT.sIx xs.length 0 lo)
theorem sIx_all (n : Nat) (h : HT.sIx n 0 none = 0 ∧ HT.sIx n n none = n) : True := trivial
def rCatTT : R2 := fun x y H Q => ∃ bs cs, TT H x bs ∧ TT H y cs ∧ bs.length + cs.length ≤ sizeLine ∧ ∀ v H', Same H H' → TT H' v (bs ++ cs) → Q v H'
theorem op_catTT {X : Cx} : OpR X (binaryOp .Add) rCatTT := by
  intro pins s σ H x y v u Q I rx ry h
  obtain ⟨bs, cs, ⟨a, ts, rfl, ha, pa⟩, ⟨b, us, rfl, hb, pb⟩, hz, q⟩ := h
  have la : ts.length = bs.length := pa.length
  have lb : us.length = cs.length := pb.length
  refine op_catA pins s σ H _ _ v u Q I rx ry ⟨a, b, ts, us, rfl, rfl, .inl (.inl ha), .inl (.inl hb), by omega, fun e => ?_, fun _ e => ?_, fun _ _ p np => ?_⟩
  · refine q _ H (Same.refl _) ⟨b, us, rfl, hb, ?_⟩
    subst e
    cases pa
    exact pb
  · refine q _ H (Same.refl _) ⟨a, ts, rfl, ha, ?_⟩
    subst e
    cases pb
    rw [List.append_nil]
    exact pa
  · have s1 := same_upd (o := .tup (ts ++ us)) np
    exact q _ _ s1 ⟨p, _, rfl, upd_same, paired_app (Paired.mapP pa fun _ _ h => h.same s1) (Paired.mapP pb fun _ _ h => h.same s1)⟩
def rSlTT : V → Option Int → Option Int → Hp → VK → Prop := fun x lo hi H Q => ∃ bs, TT H x bs ∧ ∀ v H', Same H H' → TT H' v (cutL bs lo hi) → Q v H'
theorem sl_TT {X : Cx} : SlR X rSlTT := by
  intro pins s σ H x v vl vu lo hi sl Q I rx hs pl pu h
  obtain ⟨bs, ⟨a, ts, rfl, ha, pa⟩, q⟩ := h
  have la : ts.length = bs.length := pa.length
  refine sl_tupA pins s σ H _ v vl vu lo hi sl Q I rx hs pl pu ⟨a, ts, rfl, .inl (.inl ha), fun e => ?_, fun _ p np => ?_⟩
  · refine q _ H (Same.refl _) ⟨a, ts, rfl, ha, ?_⟩
    unfold cutL
    rw [← la, e.1, e.2, la]
    show Paired (TP H) ts ((bs.drop 0).take (bs.length - 0))
    rw [List.drop_zero, Nat.sub_zero, List.take_length]
    exact pa
  · have s1 := same_upd (o := .tup (cutV ts lo hi)) np
    refine q _ _ s1 ⟨p, _, rfl, upd_same, ?_⟩
    unfold cutL cutV
    rw [← la]
    exact paired_take _ (paired_drop _ (Paired.mapP pa fun _ _ h => h.same s1))
theorem flat_le {c : Nat} : ∀ {bs : List (List Int)}, (∀ b ∈ bs, b.length ≤ c) → bs.flatten.length ≤ c * bs.length
  | [], _ => Nat.zero_le _
  | b :: bs, h => by
    rw [List.flatten_cons, List.length_append, List.length_cons, Nat.mul_succ]
    have := flat_le (bs := bs) fun b hb => h b (List.mem_cons_of_mem _ hb)
    have := h b List.mem_cons_self
    omega
theorem len_flat : ∀ {bs : List (List Int)}, (∀ b ∈ bs, b ≠ []) → bs.length ≤ bs.flatten.length
  | [], _ => Nat.le_refl _
  | b :: bs, h => by
    rw [List.flatten_cons, List.length_append, List.length_cons]
    have := len_flat (bs := bs) fun b hb => h b (List.mem_cons_of_mem _ hb)
    have := List.length_pos_iff.mpr (h b List.mem_cons_self)
    omega
/-- few blocks, each of few points -/
def Few (c : Nat) (bs : List (List Int)) : Prop := bs.length ≤ c ∧ ∀ b ∈ bs, b.length ≤ 13
theorem Few.ok {n m : Int} {bs : List (List Int)} (h : Few 40 bs) (hn : n.natAbs ≤ 1000) (hm : m.natAbs ≤ 1000) : DgOk n m bs := by
  have := flat_le h.2
  exact ⟨hn, hm, by have := h.1; omega, by have := h.1; omega⟩
theorem Few.cut {c : Nat} {bs : List (List Int)} (h : Few c bs) (i j : Nat) : Few c ((bs.drop i).take j) :=
  ⟨by have := h.1; rw [List.length_take, List.length_drop]; omega, fun b hb => h.2 b (List.mem_of_mem_drop (List.mem_of_mem_take hb))⟩
theorem Few.app {c d : Nat} {bs cs : List (List Int)} (h : Few c bs) (g : Few d cs) : Few (c + d) (bs ++ cs) :=
  ⟨by have := h.1; have := g.1; rw [List.length_append]; omega, fun b hb => (List.mem_append.mp hb).elim (h.2 b) (g.2 b)⟩
theorem Few.more {c d : Nat} {bs : List (List Int)} (h : Few c bs) (hd : c ≤ d) : Few d bs := ⟨Nat.le_trans h.1 hd, h.2⟩
theorem IsDg.few {n m : Int} {bs : List (List Int)} (h : IsDg n m bs) : Few 12 bs := by
  have hs := siz_iff.mp h.sz
  have e := h.pm.length_eq
  rw [ixs_len] at e
  have l1 := len_flat h.ne
  refine ⟨by omega, fun b hb => ?_⟩
  have := mem_len hb
  omega

def fams : List Str := ["threads", "loose", "pairs", "lonepairs", "even", "parts"]

/-! ### families -/
def strandB (n : Int) (b : List Int) : Bool := decide (b.length = 2) && decide (co b 0 < n ∧ n ≤ co b 1)
def sizeOk (z : Str) (k : Nat) : Bool := if z = "pairs" then decide (k = 2) else if z = "lonepairs" then decide (k ≤ 2) else if z = "even" then decide (k % 2 = 0) else true
def blockOk (z : Str) (n : Int) (b : List Int) : Bool := if z = "threads" then strandB n b else if z = "loose" then decide (b.length = 1) || strandB n b else sizeOk z b.length
def inFam (z : Str) (n : Int) (bs : List (List Int)) : Bool := bs.all (blockOk z n)
theorem inV_str (z : Str) : ∀ l : List Str, inV (.str z) (l.map V.str) = decide (z ∈ l)
  | [] => rfl
  | x :: l => by
    show (eqV (.str x) (.str z) || inV (.str z) (l.map V.str)) = _
    rw [inV_str z l]
    have e : eqV (.str x) (.str z) = decide (x = z) := by
      by_cases c : x = z <;> simp [eqV, c]
    rw [e]
    by_cases c : x = z
    · rw [decide_eq_true c, decide_eq_true (List.mem_cons.mpr (.inl c.symm))]
      rfl
    · rw [decide_eq_false c, Bool.false_or]
      refine decide_eq_decide.mpr ⟨fun z => List.mem_cons_of_mem _ z, fun z => (List.mem_cons.mp z).resolve_left fun z => c z.symm⟩
theorem dec_int {k : Nat} {c : Nat} : decide (V.int (k : Int) = V.int (c : Int)) = decide (k = c) := decide_eq_decide.mpr ⟨fun h => by have := V.int.inj h; omega, fun h => by rw [h]⟩
section
variable {P : Program} {w : World} {K : PySem.W.Frag} {mg : Str → Option Value} {base : Heap}
def spCheckFamily (CF : Addr) : Sp := fun vs H Q E => ∃ z : Str, vs = [.str z] ∧ (z ∈ fams → Q .non H) ∧ (z ∉ fams → E (.ref CF) none H)
theorem ok_check_family {f CF aF : Addr} {fd : FuncData} (F : Fun K "check_family" "check_family" s_check_family f fd) (T : ErrC K mg "NotFamily" CF) (m_FAMILIES : mg "FAMILIES" = some (.ref aF)) (tF : ∀ H, SqT K H aF (fams.map V.str)) :
    FnOk P w K mg base (L2N.CX P w) 1 f fd ["family"] (spCheckFamily CF) := by
  obtain ⟨gc_NotFamily, x_NotFamily, kc_NotFamily, bc_NotFamily, tc_NotFamily⟩ := T
  have r_FAMILIES : RelV (.ref aF) (.ref aF) := rfl
  refine F.okXN sc_check_family (fun vs H Q E h => ?_) (fun cdv A outer s H vs Q E hr h => ?_)
  · obtain ⟨z, rfl, _⟩ := h
    rfl
  · obtain ⟨z, rfl, q1, q2⟩ := h
    refine ⟨_, (pss_one (ps_if (pt_cmpR op_notIn_seq (pv 0) (pe_glob rfl m_FAMILIES r_FAMILIES) (by with_unfolding_all rfl)) (pss_one (L2N.ps_raise rfl (L2N.takes_of rfl rfl rfl rfl) (L2N.pmk_own PySem.F.excBase_ValueError x_NotFamily gc_NotFamily kc_NotFamily (raises_own bc_NotFamily tc_NotFamily) rfl))) pss_nil)), ?_⟩
    refine ⟨_, rfl, aF, _, rfl, .inr (tF _), rfl, rfl, _, rfl, ?_⟩
    rw [show (if true = true then !inV (.str z) (fams.map V.str) else inV (.str z) (fams.map V.str)) = !inV (.str z) (fams.map V.str) from rfl, inV_str]
    by_cases c : z ∈ fams
    · rw [decide_eq_true c]
      exact iteF (q1 c)
    · rw [decide_eq_false c]
      exact iteT (q2 c)
def spIsStrand : Sp := fun vs H Q _ => ∃ (n : Int) (v : V) (b : List Int), vs = [.int n, v] ∧ TP H v b ∧ Q (.bl (strandB n b)) H
theorem ok_is_strand_ {f : Addr} {fd : FuncData} (F : Fun K "_is_strand" "_is_strand" s_is_strand_ f fd) (z_len : mg "len" = none) : FnOk P w K mg base CX0 1 f fd ["n", "block"] spIsStrand := by
  refine F.ok sc_is_strand_ (fun vs H Q E h => ?_) (fun cdv A outer s H vs Q E hr h => ?_)
  · obtain ⟨n, v, b, rfl, _⟩ := h
    rfl
  · obtain ⟨n, v, b, rfl, ⟨t, rfl, ht⟩, q⟩ := h
    refine ⟨_, (pss_one (ps_ret (pe_and (pe_cmpR op_eq (pe_callB call_len_seq (by rfl) z_len boot_len (pa_cons (pv 1) pa_nil)) pe_int (nomark _)) (pe_one (pe_chain op_lt op_le (pe_ix ix_tup (pv 1) pe_int (fun _ _ => rfl)) (pv 0) (pe_ix ix_tup (pv 1) pe_int (fun _ _ => rfl))))))), ?_⟩
    unfold strandB at q
    refine ⟨_, rfl, t, _, rfl, .inr (.inl (.inl ht)), rfl, _, rfl, ?_⟩
    rw [List.length_map, show (2 : Int) = ((2 : Nat) : Int) from rfl, dec_int]
    by_cases c : b.length = 2
    · rw [decide_eq_true c] at q ⊢
      rw [Bool.true_and] at q
      refine iteT ⟨_, rfl, t, _, 0, .int (co b 0), rfl, rfl, .inl (.inl ht), (at_co (k := 0) (by omega)), _, rfl, _, _, rfl, rfl, _, rfl, ?_⟩
      by_cases c1 : co b 0 < n
      · rw [decide_eq_true c1]
        refine iteT ⟨_, rfl, t, _, 1, .int (co b 1), rfl, rfl, .inl (.inl ht), (at_co (k := 1) (by omega)), _, _, rfl, rfl, ?_⟩
        dsimp only
        rw [show decide (n ≤ co b 1) = decide (co b 0 < n ∧ n ≤ co b 1) from decide_eq_decide.mpr ⟨fun h => ⟨c1, h⟩, fun h => h.2⟩]
        exact q
      · rw [decide_eq_false c1]
        refine iteF ?_
        rw [decide_eq_false fun h => c1 h.1] at q
        exact q
    · rw [decide_eq_false c] at q ⊢
      exact iteF q
def spIsBlockSize : Sp := fun vs H Q _ => ∃ (z : Str) (k : Nat), vs = [.str z, .int k] ∧ Q (.bl (sizeOk z k)) H
theorem ok_is_block_size_ {f : Addr} {fd : FuncData} (F : Fun K "_is_block_size" "_is_block_size" s_is_block_size_ f fd) : FnOk P w K mg base CX0 1 f fd ["family", "size"] spIsBlockSize := by
  refine F.ok sc_is_block_size_ (fun vs H Q E h => ?_) (fun cdv A outer s H vs Q E hr h => ?_)
  · obtain ⟨z, k, rfl, _⟩ := h
    rfl
  · obtain ⟨z, k, rfl, q⟩ := h
    refine ⟨_, (pss_cons (ps_if (pt_cmpR op_eq (pv 0) pe_str (nomark _)) (pss_one (ps_ret (pe_cmpR op_eq (pv 1) pe_int (nomark _)))) pss_nil)
  (pss_cons (ps_if (pt_cmpR op_eq (pv 0) pe_str (nomark _)) (pss_one (ps_ret (pe_cmpR op_le (pv 1) pe_int (nomark _)))) pss_nil)
  (pss_cons (ps_if (pt_cmpR op_eq (pv 0) pe_str (nomark _)) (pss_one (ps_ret (pe_cmpR op_eq (pe_op op_mod (pv 1) pe_int) pe_int (nomark _)))) pss_nil)
  (pss_one (ps_ret pe_bl))))), ?_⟩
    unfold sizeOk at q
    refine ⟨_, rfl, rfl, _, rfl, ite2 (fun e => ?_) (fun e => ?_)⟩
    · rw [if_pos (V.str.inj (of_decide_eq_true e))] at q
      refine ⟨_, rfl, rfl, ?_⟩
      rw [show (2 : Int) = ((2 : Nat) : Int) from rfl, dec_int]
      exact q
    rw [if_neg fun z => e (decide_eq_true (congrArg V.str z))] at q
    refine ⟨_, rfl, rfl, _, rfl, ite2 (fun e => ?_) (fun e => ?_)⟩
    · rw [if_pos (V.str.inj (of_decide_eq_true e))] at q
      refine ⟨_, rfl, _, _, rfl, rfl, ?_⟩
      dsimp only
      rw [show decide ((k : Int) ≤ 2) = decide (k ≤ 2) from decide_eq_decide.mpr ⟨fun h => by omega, fun h => by omega⟩]
      exact q
    rw [if_neg fun z => e (decide_eq_true (congrArg V.str z))] at q
    refine ⟨_, rfl, rfl, _, rfl, ite2 (fun e => ?_) (fun e => ?_)⟩
    · rw [if_pos (V.str.inj (of_decide_eq_true e))] at q
      refine ⟨_, rfl, _, _, rfl, rfl, (show (0 : Int) < 2 by decide), rfl, ?_⟩
      have h : decide (V.int ((k : Int) % 2) = V.int 0) = decide (k % 2 = 0) := decide_eq_decide.mpr ⟨fun h => by have := V.int.inj h; omega, fun h => congrArg V.int (by omega)⟩
      dsimp only
      rw [h]
      exact q
    rw [if_neg fun z => e (decide_eq_true (congrArg V.str z))] at q
    exact q
def spIsBlockOf : Sp := fun vs H Q _ => ∃ (z : Str) (n : Int) (v : V) (b : List Int), vs = [.str z, .int n, v] ∧ TP H v b ∧ Q (.bl (blockOk z n b)) H
theorem ok_is_block_of_ {f a_is_strand_ a_is_block_size_ : Addr} {fd fd_is_strand_ fd_is_block_size_ : FuncData} (F : Fun K "_is_block_of" "_is_block_of" s_is_block_of_ f fd) (z_len : mg "len" = none)
    (G_is_strand_ : FnOk P w K mg base CX0 1 a_is_strand_ fd_is_strand_ ["n", "block"] spIsStrand) (g_is_strand_ : mg "_is_strand" = some (.ref a_is_strand_)) (k_is_strand_ : PySem.W.keepIn K (.ref a_is_strand_) = true) (b_is_strand_ : Binds K fd_is_strand_ ["n", "block"] [])
    (G_is_block_size_ : FnOk P w K mg base CX0 1 a_is_block_size_ fd_is_block_size_ ["family", "size"] spIsBlockSize) (g_is_block_size_ : mg "_is_block_size" = some (.ref a_is_block_size_)) (k_is_block_size_ : PySem.W.keepIn K (.ref a_is_block_size_) = true) (b_is_block_size_ : Binds K fd_is_block_size_ ["family", "size"] []) :
    FnOk P w K mg base CX0 2 f fd ["family", "n", "block"] spIsBlockOf := by
  refine F.ok sc_is_block_of_ (fun vs H Q E h => ?_) (fun cdv A outer s H vs Q E hr h => ?_)
  · obtain ⟨z, n, v, b, rfl, _⟩ := h
    rfl
  · obtain ⟨z, n, v, b, rfl, ⟨t, rfl, ht⟩, q⟩ := h
    refine ⟨_, (pss_cons (ps_if (pt_cmpR op_eq (pv 0) pe_str (nomark _)) (pss_one (ps_ret (pe_call G_is_strand_ (hr.mono (by decide)) rfl g_is_strand_ k_is_strand_ b_is_strand_ .nil pass0 (pa_cons (pv 1) (pa_cons (pv 2) pa_nil))))) pss_nil)
  (pss_cons (ps_if (pt_cmpR op_eq (pv 0) pe_str (nomark _)) (pss_one (ps_ret (pe_or (pe_cmpR op_eq (pe_callB call_len_seq (by rfl) z_len boot_len (pa_cons (pv 2) pa_nil)) pe_int (nomark _)) (pe_one (pe_call G_is_strand_ (hr.mono (by decide)) rfl g_is_strand_ k_is_strand_ b_is_strand_ .nil pass0 (pa_cons (pv 1) (pa_cons (pv 2) pa_nil))))))) pss_nil)
  (pss_one (ps_ret (pe_call G_is_block_size_ (hr.mono (by decide)) rfl g_is_block_size_ k_is_block_size_ b_is_block_size_ .nil pass0 (pa_cons (pv 0) (pa_cons (pe_callB call_len_seq (by rfl) z_len boot_len (pa_cons (pv 2) pa_nil)) pa_nil))))))), ?_⟩
    unfold blockOk at q
    refine ⟨_, rfl, rfl, _, rfl, ite2 (fun e => ?_) (fun e => ?_)⟩
    · rw [if_pos (V.str.inj (of_decide_eq_true e))] at q
      exact ⟨_, rfl, _, rfl, n, .ref t, b, rfl, ⟨t, rfl, ht⟩, q⟩
    rw [if_neg fun z => e (decide_eq_true (congrArg V.str z))] at q
    refine ⟨_, rfl, rfl, _, rfl, ite2 (fun e => ?_) (fun e => ?_)⟩
    · rw [if_pos (V.str.inj (of_decide_eq_true e))] at q
      refine ⟨_, rfl, t, _, rfl, .inr (.inl (.inl ht)), rfl, _, rfl, ?_⟩
      rw [List.length_map, show (1 : Int) = ((1 : Nat) : Int) from rfl, dec_int]
      by_cases c : b.length = 1
      · rw [decide_eq_true c] at q ⊢
        exact iteT q
      · rw [decide_eq_false c] at q ⊢
        rw [Bool.false_or] at q
        exact iteF ⟨_, rfl, _, rfl, n, .ref t, b, rfl, ⟨t, rfl, ht⟩, q⟩
    rw [if_neg fun z => e (decide_eq_true (congrArg V.str z))] at q
    refine ⟨_, rfl, _, rfl, t, _, rfl, .inr (.inl (.inl ht)), z, b.length, by rw [List.length_map]; rfl, q⟩
def spIsIn (CF CD : Addr) : Sp := fun vs H Q E => ∃ (z : Str) (v : V) (n m : Int) (bs : List (List Int)), vs = [.str z, v] ∧ DGv H v n m bs ∧ DgOk n m bs ∧ (z ∉ fams → E (.ref CF) none H) ∧ (z ∈ fams → ¬ IsDg n m bs → ∀ H', Same H H' → E (.ref CD) none H') ∧
  (z ∈ fams → IsDg n m bs → ∀ H', Same H H' → Q (.bl (inFam z n bs)) H')
theorem ok_is_in {f CF CD a_check_family a_check_diagram a_is_block_of_ : Addr} {fd fd_check_family fd_check_diagram fd_is_block_of_ : FuncData} (F : Fun K "is_in" "is_in" s_is_in f fd) (z_all : mg "all" = none)
    (G_check_family : FnOk P w K mg base (L2N.CX P w) 1 a_check_family fd_check_family ["family"] (spCheckFamily CF)) (g_check_family : mg "check_family" = some (.ref a_check_family)) (k_check_family : PySem.W.keepIn K (.ref a_check_family) = true) (b_check_family : Binds K fd_check_family ["family"] [])
    (G_check_diagram : FnOk P w K mg base (L2N.CX P w) 3 a_check_diagram fd_check_diagram ["diagram"] (spCheckDiagram CD)) (g_check_diagram : mg "check_diagram" = some (.ref a_check_diagram)) (k_check_diagram : PySem.W.keepIn K (.ref a_check_diagram) = true) (b_check_diagram : Binds K fd_check_diagram ["diagram"] [])
    (G_is_block_of_ : FnOk P w K mg base CX0 2 a_is_block_of_ fd_is_block_of_ ["family", "n", "block"] spIsBlockOf) (g_is_block_of_ : mg "_is_block_of" = some (.ref a_is_block_of_)) (k_is_block_of_ : PySem.W.keepIn K (.ref a_is_block_of_) = true) (b_is_block_of_ : Binds K fd_is_block_of_ ["family", "n", "block"] []) :
    FnOk P w K mg base (L2N.CX P w) 4 f fd ["family", "diagram"] (spIsIn CF CD) := by
  refine F.okXN sc_is_in (fun vs H Q E h => ?_) (fun cdv A outer s H vs Q E hr h => ?_)
  · obtain ⟨z, v, n, m, bs, rfl, _⟩ := h
    rfl
  · obtain ⟨z, v, n, m, bs, rfl, hv, hb, q1, q2, q3⟩ := h
    refine ⟨_, (pss_cons (ps_expr (pe_call G_check_family (hr.mono (by decide)) rfl g_check_family k_check_family b_check_family .nil (L2N.passes_call (L2N.takes_of rfl rfl rfl rfl) (fun _ _ _ _ h => h)) (pa_cons (pv 0) pa_nil)))
  (pss_cons (ps_expr (pe_call G_check_diagram (hr.mono (by decide)) rfl g_check_diagram k_check_diagram b_check_diagram .nil (L2N.passes_call (L2N.takes_of rfl rfl rfl rfl) (fun _ _ _ _ h => h)) (pa_cons (pv 1) pa_nil)))
  (pss_cons (ps_asg (pv 1) (pg_tup rfl (pgs_cons (pg_name (i := 2) sc_is_in.nd rfl (.inr rfl)) (pgs_cons (pg_name (i := 3) sc_is_in.nd rfl (.inl rfl)) (pgs_cons (pg_name (i := 4) sc_is_in.nd rfl (.inl rfl)) pgs_nil)))))
  (pss_one (ps_ret (pe_callB (cr_all rfl) (by rfl) z_all boot_all (pa_cons (pe_lc (own := [("block", 5)]) rfl sc_is_in.nd (pi_tup (pv 4)) (blkOk_by (N := ["family", "diagram", "n", "_", "blocks", "block"]) (sc := defScope s_is_in) (by first | decide +kernel | rfl)) (fun _ _ _ _ _ => (pg_name (i := 5) sc_is_in.nd rfl (.inl rfl))) (fun _ _ _ _ _ => pts_nil) (fun _ _ _ _ _ => (pe_call G_is_block_of_ (hr.mono (by decide)) rfl g_is_block_of_ k_is_block_of_ b_is_block_of_ .nil pass0 (pa_cons (pv 0) (pa_cons (pv 2) (pa_cons (pv 5) pa_nil)))))) pa_nil))))))), ?_⟩
    have szl : 20000 ≤ sizeLine := by decide
    refine ⟨_, rfl, z, rfl, fun mz => ?_, fun nz => q1 nz⟩
    refine ⟨_, rfl, v, n, m, bs, rfl, hv, hb, fun H1 s1 => ⟨fun dg => ?_, fun nd => q2 mz nd H1 s1⟩⟩
    obtain ⟨t, vb, rfl, ht, tb, ts, rfl, htb, pr⟩ := DGv.same s1 hv
    have lts : ts.length = bs.length := pr.length
    have few := dg.few
    refine ⟨_, rfl, t, _, rfl, .inl (.inl ht), rfl, _, _, rfl, _, _, rfl, _, _, rfl, rfl, ?_⟩
    refine ⟨_, rfl, tb, rfl, ⟨_, .inl (.inl htb)⟩, fun D nD => ?_⟩
    have keep : ∀ {H' : Hp} {a : Addr} {o : HO}, SameBut D H1 H' → H1 a = some o → H' a = some o := fun sb e => sb _ _ (ne_of_none e nD) e
    refine lc_it walk_tup (fun i H' => SameBut D H1 H' ∧ H' D = some (.lst (((bs.take i).map (blockOk z n)).map V.bl))) ⟨SameBut.upd, upd_same⟩ (fun i H' _ hP => .inl (.inl (keep hP.1 htb))) (fun i y H5 H6 hi hP hy => ?_) (fun H5 hP => ?_)
    · obtain ⟨sb, hD⟩ := hP
      obtain ⟨e0, hy⟩ := hy
      subst e0
      obtain ⟨b, eb, a, rfl, ha⟩ := tt_get pr hy
      refine ⟨rfl, ?_⟩
      refine ⟨_, rfl, _, rfl, _, rfl, z, n, .ref a, b, rfl, ⟨a, rfl, keep sb ha⟩, _, hD, by rw [List.length_map, List.length_map, List.length_take]; have := few.1; omega, sb.trans SameBut.upd, ?_⟩
      rw [upd_same, List.take_succ, eb, List.map_append, List.map_append]
      rfl
    obtain ⟨sb, hD⟩ := hP
    rw [lts, List.take_length] at hD
    have s5 : Same H1 H5 := fun b o e => keep sb e
    refine ⟨D, _, rfl, .inl (.inl hD), ?_⟩
    rw [show (bs.map (blockOk z n)).all id = inFam z n bs by unfold inFam; rw [List.all_map]; rfl]
    exact q3 mz dg H5 (Same.trans s1 s5)
end

theorem TP.butL {H H' : Hp} {r : Addr} {ys : List V} {v : V} {z : List Int} (hr : H r = some (.lst ys)) (s : SameBut r H H') (h : TP H v z) : TP H' v z := by
  obtain ⟨a, rfl, h⟩ := h
  exact ⟨a, rfl, s _ _ (ne_of h hr (fun z => nomatch z)) h⟩
theorem TT.butL {H H' : Hp} {r : Addr} {ys : List V} {v : V} {bs : List (List Int)} (hr : H r = some (.lst ys)) (s : SameBut r H H') (h : TT H v bs) : TT H' v bs := by
  obtain ⟨a, ts, rfl, h, pr⟩ := h
  exact ⟨a, ts, rfl, s _ _ (ne_of h hr (fun z => nomatch z)) h, Paired.mapP pr fun _ _ h => h.butL hr s⟩
theorem DGv.butL {H H' : Hp} {r : Addr} {ys : List V} {v : V} {n m : Int} {bs : List (List Int)} (hr : H r = some (.lst ys)) (s : SameBut r H H') (h : DGv H v n m bs) : DGv H' v n m bs := by
  obtain ⟨t, vb, rfl, h, tt⟩ := h
  exact ⟨t, vb, rfl, s _ _ (ne_of h hr (fun z => nomatch z)) h, tt.butL hr s⟩
/-- a diagram with these marks -/
def DgAt (H : Hp) (u : V) (n m : Int) (l : List Int) : Prop := DGv H u n m (blocksOf l) ∧ siz n m = true ∧ (l.length : Int) = n + m
theorem DgAt.dg {H : Hp} {u : V} {n m : Int} {l : List Int} (h : DgAt H u n m l) : IsDg n m (blocksOf l) := isDg_blocks h.2.1 h.2.2
theorem DgAt.ok {H : Hp} {u : V} {n m : Int} {l : List Int} (h : DgAt H u n m l) : DgOk n m (blocksOf l) := by
  have := siz_iff.mp h.2.1
  exact (h.dg.few.more (by decide)).ok (by omega) (by omega)
theorem DgAt.same {H H' : Hp} {u : V} {n m : Int} {l : List Int} (s : Same H H') (h : DgAt H u n m l) : DgAt H' u n m l := ⟨h.1.same s, h.2⟩
theorem DgAt.butL {H H' : Hp} {r : Addr} {ys : List V} {u : V} {n m : Int} {l : List Int} (hr : H r = some (.lst ys)) (s : SameBut r H H') (h : DgAt H u n m l) : DgAt H' u n m l := ⟨h.1.butL hr s, h.2⟩
theorem DgAt.ix {H : Hp} {t : Addr} {n m : Int} {l : List Int} (h : DgAt H (.ref t) n m l) : ∃ vb, H t = some (.tup [.int n, .int m, vb]) := by
  obtain ⟨⟨t', vb, e, h, _⟩, _⟩ := h
  obtain rfl := V.ref.inj e
  exact ⟨vb, h⟩
/-- the answer of a comparison is not computed -/
theorem bl_ex {b : Bool} {R : Bool → Prop} (h : R b) : ∃ k, V.bl b = V.bl k ∧ R k := ⟨b, rfl, h⟩
theorem smL_dL {z : List Int} {B : Nat} (h : ∀ x ∈ z, x.natAbs < 2 ^ 200) (hB : z.length ≤ B) : SmL 1 (1923 * B + 3) (dL z) := by
  have e := smL_list (ds := z.map PyData.int) (n := 0) (k := 1921) fun D hD => by
    obtain ⟨a, ha, rfl⟩ := List.mem_map.mp hD
    exact smL_int (h a ha)
  rw [List.length_map] at e
  exact e.more (by show 1923 * z.length + 3 ≤ 1923 * B + 3; omega)
theorem labL_mem {bs : List (List Int)} {N : Nat} : ∀ x ∈ labL bs N, 0 ≤ x ∧ x ≤ (bs.length : Int) := by
  have run : ∀ (bs : List (List Int)) (k : Nat) (ms : List Int) (B : Int), ((k + bs.length : Nat) : Int) ≤ B → (∀ x ∈ ms, 0 ≤ x ∧ x ≤ B) → ∀ x ∈ labFrom bs k ms, 0 ≤ x ∧ x ≤ B := by
    intro bs
    induction bs with
    | nil => exact fun _ _ _ _ h => h
    | cons b bs ih =>
      intro k ms B hk h
      rw [List.length_cons] at hk
      refine ih (k + 1) _ B (by omega) ?_
      clear ih
      induction b generalizing ms with
      | nil => exact h
      | cons p b ih2 =>
        refine ih2 _ fun x hx => ?_
        rcases List.mem_or_eq_of_mem_set hx with hx | rfl
        · exact h x hx
        · omega
  exact run bs 0 _ _ (by omega) fun x hx => by
    have := List.eq_of_mem_replicate hx
    omega
theorem smL_lab {n m : Int} {bs : List (List Int)} (h : IsDg n m bs) : SmL 1 25000 (dL (labL bs (n + m).toNat)) := by
  have hs := siz_iff.mp h.sz
  have f := h.few.1
  refine (smL_dL (B := 12) (fun x hx => ?_) (by rw [labL_len]; omega)).more (by decide)
  have := labL_mem x hx
  have : (12 : Nat) < 2 ^ 200 := by decide
  omega
theorem smL_dg {n m : Int} {bs : List (List Int)} (h : IsDg n m bs) : SmL 3 1000000 (dDG n m bs) := by
  have hs := siz_iff.mp h.sz
  have f := h.few
  have big : (12 : Nat) < 2 ^ 200 := by decide
  have e1 := smL_tuple (n := 1) (k := 25002) (ds := bs.map dT) fun D hD => by
    obtain ⟨b, hb, rfl⟩ := List.mem_map.mp hD
    refine (dT_small (z := b) fun k => ?_).more (by have := f.2 b hb; omega)
    rcases Nat.lt_or_ge k b.length with c | c
    · have := dg_pt h hb (co_mem c)
      omega
    · rw [co_ge c]
      decide
  rw [List.length_map] at e1
  have e1 : SmL 2 310000 (dTT bs) := e1.more (by have := f.1; omega)
  have e2 := smL_tuple (n := 2) (k := 310000) (ds := [.int n, .int m, dTT bs]) fun D hD => by
    have up : ∀ {x : Int}, x.natAbs < 2 ^ 200 → SmL 2 310000 (.int x) := fun hx => by
      obtain ⟨h1, h2, h3, h4⟩ := smL_int hx
      exact ⟨h1, Nat.le_trans h2 (by decide), h3, Nat.le_trans h4 (by decide)⟩
    rcases List.mem_cons.mp hD with rfl | hD
    · exact up (by omega)
    · rcases List.mem_cons.mp hD with rfl | hD
      · exact up (by omega)
      · rw [List.mem_singleton.mp hD]
        exact e1
  exact e2.more (by show (310000 + 2) * 3 + 3 ≤ 1000000; decide)
theorem few_pow {x : Int} (h : 0 ≤ x ∧ x ≤ 1000) : x.natAbs < 2 ^ 64 := by
  have : (1000 : Nat) < 2 ^ 64 := by decide
  omega

/-! ### slices of lists of integers -/
theorem cutI {l : List Int} (lo hi : Option Int) : cutV (l.map V.int) lo hi = ((l.drop (HT.sIx l.length 0 lo)).take (HT.sIx l.length l.length hi - HT.sIx l.length 0 lo)).map V.int := by
  unfold cutV
  rw [List.length_map, ← List.map_drop, ← List.map_take]
theorem cutI_to {l : List Int} {b : Int} (h0 : 0 ≤ b) (h : b ≤ l.length) : cutV (l.map V.int) none (some b) = (l.take b.toNat).map V.int := by
  obtain ⟨k, rfl⟩ := Int.eq_ofNat_of_zero_le h0
  rw [cutI, HT.sIx_none, HT.sIx_nat, Nat.min_eq_left (by omega), List.drop_zero, Nat.sub_zero]
  rfl
theorem cutI_from {l : List Int} {a : Int} (h0 : 0 ≤ a) (h : a ≤ l.length) : cutV (l.map V.int) (some a) none = (l.drop a.toNat).map V.int := by
  obtain ⟨k, rfl⟩ := Int.eq_ofNat_of_zero_le h0
  rw [cutI, HT.sIx_none, HT.sIx_nat, Nat.min_eq_left (by omega)]
  show ((l.drop k).take (l.length - k)).map V.int = (l.drop k).map V.int
  rw [← List.length_drop, List.take_length]
theorem cutI_mid {l : List Int} {a b : Int} (h0 : 0 ≤ a) (h1 : a ≤ b) (h : b ≤ l.length) : cutV (l.map V.int) (some a) (some b) = ((l.drop a.toNat).take (b.toNat - a.toNat)).map V.int := by
  obtain ⟨k, rfl⟩ := Int.eq_ofNat_of_zero_le h0
  obtain ⟨j, rfl⟩ := Int.eq_ofNat_of_zero_le (show 0 ≤ b by omega)
  rw [cutI, HT.sIx_nat, HT.sIx_nat, Nat.min_eq_left (by omega), Nat.min_eq_left (by omega)]
  rfl
theorem sIx_neg1 (n d : Nat) : HT.sIx n d (some (-1)) = n - 1 := by
  show (if (-1 : Int) < 0 then ((-1 : Int) + (n : Int)).toNat else min (-1 : Int).toNat n) = n - 1
  rw [if_pos (by decide)]
  omega
theorem cutI_last {l : List Int} : cutV (l.map V.int) (some (-1)) none = (l.drop (l.length - 1)).map V.int := by
  rw [cutI, HT.sIx_none, sIx_neg1]
  rw [← List.length_drop, List.take_length]
theorem cutI_but {l : List Int} {a : Int} (h0 : 0 ≤ a) (h : a ≤ l.length) : cutV (l.map V.int) (some a) (some (-1)) = ((l.drop a.toNat).take (l.length - 1 - a.toNat)).map V.int := by
  obtain ⟨k, rfl⟩ := Int.eq_ofNat_of_zero_le h0
  rw [cutI, HT.sIx_nat, sIx_neg1, Nat.min_eq_left (by omega)]
  rfl
/-- the labels of a diagram stand for the marks -/
theorem labs_map {n m : Int} {l : List Int} (hl : (l.length : Int) = n + m) : ∃ g : Int → Int, labL (blocksOf l) (n + m).toNat = l.map g ∧ ∀ x ∈ l, ∀ y ∈ l, g x = g y → x = y := by
  refine ⟨fun v => (((seenL [] l).idxOf v : Nat) : Int), ?_, fun x hx y hy h => idx_inj ((seenL_mem l [] x).mpr (.inr hx)) ((seenL_mem l [] y).mpr (.inr hy)) h⟩
  rw [show (n + m).toNat = l.length by omega]
  exact labL_marks l
/-- a choice of marks by their places -/
theorem blocks_sel {n m : Int} {l : List Int} (hl : (l.length : Int) = n + m) {sel : List Int → List Int} (hm : ∀ (g : Int → Int) (z : List Int), sel (z.map g) = (sel z).map g) (hs : ∀ x ∈ sel l, x ∈ l) : blocksOf (sel (labL (blocksOf l) (n + m).toNat)) = blocksOf (sel l) := by
  obtain ⟨g, e, inj⟩ := labs_map hl
  rw [e, hm]
  exact blocksOf_map fun x hx y hy h => inj x (hs x hx) y (hs y hy) h

theorem cutN_to {l : List Int} {b : Nat} (h : b ≤ l.length) : cutV (l.map V.int) none (some (b : Int)) = (l.take b).map V.int := cutI_to (by omega) (by omega)
theorem cutN_from {l : List Int} {b : Nat} (h : b ≤ l.length) : cutV (l.map V.int) (some (b : Int)) none = (l.drop b).map V.int := cutI_from (by omega) (by omega)
theorem co_app (a b : List Int) (i : Nat) : co (a ++ b) i = if i < a.length then co a i else co b (i - a.length) := by
  unfold co
  rw [List.getD_eq_getElem?_getD, List.getElem?_append]
  split
  · rw [List.getD_eq_getElem?_getD]
  · rw [List.getD_eq_getElem?_getD]

/-! ### rows of colours -/
def addC (row : List Int) (d : Nat) : List (List Int) := (List.range d).map fun (u : Nat) => row ++ [(u : Int)]
def rowsC (d : Nat) : Nat → List (List Int)
  | 0 => [[]]
  | k + 1 => ((rowsC d k).map fun row => addC row d).flatten
theorem mem_addC {row x : List Int} {d : Nat} : x ∈ addC row d ↔ ∃ u : Nat, u < d ∧ x = row ++ [(u : Int)] := by
  unfold addC
  rw [List.mem_map]
  exact ⟨fun ⟨u, h, e⟩ => ⟨u, List.mem_range.mp h, e.symm⟩, fun ⟨u, h, e⟩ => ⟨u, List.mem_range.mpr h, e.symm⟩⟩
theorem rowsC_ok {d : Nat} : ∀ {k : Nat} {x : List Int}, x ∈ rowsC d k → x.length = k ∧ ∀ y ∈ x, 0 ≤ y ∧ y < (d : Int)
  | 0, x, h => by
    rw [List.mem_singleton.mp h]
    exact ⟨rfl, fun y hy => nomatch hy⟩
  | k + 1, x, h => by
    obtain ⟨l, hl, hx⟩ := List.mem_flatten.mp h
    obtain ⟨row, hr, rfl⟩ := List.mem_map.mp hl
    obtain ⟨u, hu, rfl⟩ := mem_addC.mp hx
    obtain ⟨a, b⟩ := rowsC_ok hr
    refine ⟨by rw [List.length_append, a]; rfl, fun y hy => ?_⟩
    rcases List.mem_append.mp hy with hy | hy
    · exact b y hy
    · rw [List.mem_singleton.mp hy]
      omega
theorem rowsC_mem {d : Nat} : ∀ {k : Nat} {x : List Int}, x.length = k → (∀ y ∈ x, 0 ≤ y ∧ y < (d : Int)) → x ∈ rowsC d k
  | 0, x, h, _ => by
    rw [List.length_eq_zero_iff.mp h]
    exact List.mem_singleton.mpr rfl
  | k + 1, x, h, hb => by
    have ne : x ≠ [] := fun e => by rw [e] at h; cases h
    have e := List.dropLast_concat_getLast ne
    have hl := hb (x.getLast ne) (List.getLast_mem ne)
    refine List.mem_flatten.mpr ⟨addC x.dropLast d, List.mem_map.mpr ⟨x.dropLast, rowsC_mem (by rw [List.length_dropLast, h]; rfl) (fun y hy => hb y ((List.dropLast_sublist x).subset hy)), rfl⟩, mem_addC.mpr ⟨(x.getLast ne).toNat, by omega, ?_⟩⟩
    rw [show (((x.getLast ne).toNat : Nat) : Int) = x.getLast ne by omega]
    exact e.symm
theorem rowsC_len (d : Nat) : ∀ k, (rowsC d k).length = d ^ k
  | 0 => rfl
  | k + 1 => by
    show (((rowsC d k).map fun row => addC row d).flatten).length = _
    rw [List.length_flatten, List.map_map]
    have e : ((rowsC d k).map (List.length ∘ fun row => addC row d)) = (rowsC d k).map fun _ => d := List.map_congr_left fun row _ => by
      show (addC row d).length = d
      unfold addC
      rw [List.length_map, List.length_range]
    rw [e, List.map_const', List.sum_replicate_nat, rowsC_len d k, Nat.pow_succ]
/-- equal marks have equal colours -/
def okC (l x : List Int) : Bool := decide (∀ i, i < l.length → ∀ j, j < l.length → co l i = co l j → co x i = co x j)
theorem okC_iff {l x : List Int} : okC l x = true ↔ ∀ i j, i < l.length → j < l.length → co l i = co l j → co x i = co x j := by
  unfold okC
  rw [decide_eq_true_eq]
  exact ⟨fun h i j hi hj => h i hi j hj, fun h i hi j hj => h i j hi hj⟩
def bit (b : Bool) : Int := if b = true then 1 else 0
def entF (bs : List (List Int)) (x : List Int) : Int := bit (bs.all fun b => b.all fun p => decide (co x p.toNat = co x (co b 0).toNat))
theorem ent_ok (l x : List Int) : entF (blocksOf l) x = bit (okC l x) := by
  unfold entF
  congr 1
  rw [Bool.eq_iff_iff, List.all_eq_true, okC_iff]
  constructor
  · intro h i j hi hj e
    have hb : posOf l (co l i) ∈ blocksOf l := List.mem_map.mpr ⟨_, (seenL_mem l [] _).mpr (.inr (co_mem hi)), rfl⟩
    have h := List.all_eq_true.mp (h _ hb)
    have h1 := of_decide_eq_true (h _ (mem_posOf.mpr ⟨i, rfl, hi, rfl⟩))
    have h2 := of_decide_eq_true (h _ (mem_posOf.mpr ⟨j, rfl, hj, e.symm⟩))
    rw [show ((i : Nat) : Int).toNat = i from rfl] at h1
    rw [show ((j : Nat) : Int).toNat = j from rfl] at h2
    rw [h1, h2]
  · intro h b hb
    obtain ⟨v, hv, rfl⟩ := List.mem_map.mp hb
    refine List.all_eq_true.mpr fun p hp => decide_eq_true ?_
    have h0 : co (posOf l v) 0 ∈ posOf l v := co_mem (List.length_pos_of_mem hp)
    obtain ⟨i, rfl, hi, e1⟩ := mem_posOf.mp hp
    obtain ⟨j, ej, hj, e2⟩ := mem_posOf.mp h0
    rw [ej]
    exact h i j hi hj (by rw [e1, e2])
theorem co_app2 (a b : List Int) (i : Nat) : co (a ++ b) i = if i < a.length then co a i else co b (i - a.length) := by
  by_cases c : i < a.length
  · rw [if_pos c, co_app_l c]
  · rw [if_neg c]
    by_cases d : i - a.length < b.length
    · have := co_app_r (a := a) (b := b) (i := i - a.length) d
      rw [show a.length + (i - a.length) = i by omega] at this
      exact this
    · rw [co_ge (by rw [List.length_append]; omega), co_ge (by omega)]

/-! ### tables in lists of lists -/
/-- a new list at L of new lists, no two of them the same -/
structure TabH (H0 H : Hp) (L : Addr) (rows : List (List V)) : Prop where
  fr : H0 L = none
  ex : ∃ us, H L = some (.lst us) ∧ us.Nodup ∧ Paired (fun v r => ∃ a, v = .ref a ∧ a ≠ L ∧ H0 a = none ∧ H a = some (.lst r)) us rows
theorem TabH.same {H0 H H' : Hp} {L : Addr} {rows : List (List V)} (s : Same H H') (t : TabH H0 H L rows) : TabH H0 H' L rows := by
  obtain ⟨f, us, hL, nd, pr⟩ := t
  refine ⟨f, us, s _ _ hL, nd, Paired.mapP pr fun _ _ h => ?_⟩
  obtain ⟨a, e, h1, h2, h3⟩ := h
  exact ⟨a, e, h1, h2, s _ _ h3⟩
theorem TabH.from {H0 H1 H : Hp} {L : Addr} {rows : List (List V)} (s : Same H0 H1) (t : TabH H1 H L rows) : TabH H0 H L rows := by
  obtain ⟨f, us, hL, nd, pr⟩ := t
  refine ⟨none_back s f, us, hL, nd, Paired.mapP pr fun _ _ h => ?_⟩
  obtain ⟨a, e, h1, h2, h3⟩ := h
  exact ⟨a, e, h1, none_back s h2, h3⟩
theorem paired_set {α β : Type} {F G : α → β → Prop} : ∀ {us : List α} {rows : List β} {i : Nat} {v : α} {r : β}, Paired F us rows → us[i]? = some v → us.Nodup → G v r → (∀ u b, u ≠ v → F u b → G u b) → Paired G us (rows.set i r)
  | _, _, _, _, _, .nil, e, _, _, _ => nomatch e
  | _ :: us, _ :: rows, 0, _, r, .cons f t, e, nd, g, k => by
    obtain rfl := Option.some.inj e
    obtain ⟨n1, _⟩ := List.nodup_cons.mp nd
    have : ∀ {us : List _} {rows : List _}, Paired F us rows → (∀ u ∈ us, u ≠ _) → Paired G us rows := fun {us rows} pr => by
      intro hu
      induction pr with
      | nil => exact .nil
      | cons f t ih => exact .cons (k _ _ (hu _ List.mem_cons_self) f) (ih fun u h => hu u (List.mem_cons_of_mem _ h))
    exact .cons g (this t fun u hu e => n1 (e ▸ hu))
  | u :: us, _ :: rows, i + 1, v, r, .cons f t, e, nd, g, k => by
    obtain ⟨n1, n2⟩ := List.nodup_cons.mp nd
    have e : us[i]? = some v := e
    exact .cons (k _ _ (fun z => n1 (z ▸ List.mem_of_getElem? e)) f) (paired_set t e n2 g k)
theorem TabH.set {H0 H : Hp} {L : Addr} {rows : List (List V)} (t : TabH H0 H L rows) {us : List V} (hL : H L = some (.lst us)) {i : Nat} {a : Addr} (e : us[i]? = some (.ref a)) (r : List V) : TabH H0 (upd H a (.lst r)) L (rows.set i r) := by
  obtain ⟨f, us', hL', nd, pr⟩ := t
  obtain rfl : us' = us := HO.lst.inj (Option.some.inj (hL'.symm.trans hL))
  obtain ⟨_, _, a', e', h1, h2, _⟩ := paired_get pr e
  obtain rfl := V.ref.inj e'
  refine ⟨f, us', by rw [upd_ne (Ne.symm h1)]; exact hL, nd, paired_set pr e nd ⟨a, rfl, h1, h2, upd_same⟩ fun u b ne h => ?_⟩
  obtain ⟨c, rfl, g1, g2, g3⟩ := h
  exact ⟨c, rfl, g1, g2, by rw [upd_ne fun z => ne (by rw [z])]; exact g3⟩
/-- what does not lie in the table stays -/
theorem TabH.out {H0 H : Hp} {L : Addr} {rows : List (List V)} (t : TabH H0 H L rows) {us : List V} (hL : H L = some (.lst us)) {i : Nat} {a : Addr} (e : us[i]? = some (.ref a)) (r : List V) : ∀ b o, H0 b = some o → H b = some o → upd H a (.lst r) b = some o := by
  obtain ⟨f, us', hL', nd, pr⟩ := t
  obtain rfl : us' = us := HO.lst.inj (Option.some.inj (hL'.symm.trans hL))
  obtain ⟨_, _, a', e', h1, h2, _⟩ := paired_get pr e
  obtain rfl := V.ref.inj e'
  intro b o e0 e1
  rw [upd_ne fun z => by rw [z, h2] at e0; cases e0]
  exact e1
theorem TabH.but {H0 H H' : Hp} {D L : Addr} {rows : List (List V)} {o : HO} (hD : H0 D = some o) (s : SameBut D H H') (t : TabH H0 H L rows) : TabH H0 H' L rows := by
  obtain ⟨f, us, hL, nd, pr⟩ := t
  have n1 : ∀ {a : Addr}, H0 a = none → a ≠ D := fun {a} h z => by rw [z, hD] at h; exact nomatch h
  refine ⟨f, us, s _ _ (n1 f) hL, nd, Paired.mapP pr fun _ _ h => ?_⟩
  obtain ⟨a, e, h1, h2, h3⟩ := h
  exact ⟨a, e, h1, h2, s _ _ (n1 h2) h3⟩
theorem TabH.new {H0 H : Hp} {L : Addr} (h0 : H0 L = none) (h : H L = some (.lst [])) : TabH H0 H L [] := ⟨h0, [], h, List.nodup_nil, .nil⟩
/-- a new row q at the end -/
theorem TabH.push {H0 H : Hp} {L q : Addr} {rows : List (List V)} {us : List V} {r : List V} (t : TabH H0 H L rows) (hL : H L = some (.lst us)) (nq : H q = none) (h0 : H0 q = none) :
    TabH H0 (upd (upd H q (.lst r)) L (.lst (us ++ [.ref q]))) L (rows ++ [r]) := by
  obtain ⟨f, us', hL', nd, pr⟩ := t
  obtain rfl : us' = us := HO.lst.inj (Option.some.inj (hL'.symm.trans hL))
  have qL : q ≠ L := fun z => by rw [z, hL] at nq; exact nomatch nq
  refine ⟨f, us' ++ [.ref q], upd_same, ?_, ?_⟩
  · rw [List.nodup_append]
    refine ⟨nd, List.nodup_cons.mpr ⟨List.not_mem_nil, List.nodup_nil⟩, fun a ha b hb e => ?_⟩
    rw [List.mem_singleton.mp hb] at e
    rw [e] at ha
    obtain ⟨i, hi, e⟩ := List.mem_iff_getElem.mp ha
    obtain ⟨_, _, a', e', _, _, h⟩ := paired_get pr (show us'[i]? = some (.ref q) by rw [List.getElem?_eq_getElem hi, e])
    obtain rfl := V.ref.inj e'
    rw [nq] at h
    exact nomatch h
  · refine paired_add ⟨q, rfl, qL, h0, by rw [upd_ne qL, upd_same]⟩ (Paired.mapP pr fun _ _ h => ?_)
    obtain ⟨a, e, h1, h2, h3⟩ := h
    exact ⟨a, e, h1, h2, by rw [upd_ne h1]; exact same_upd nq _ _ h3⟩
/-- a list that is not at D -/
def RowD (D : Addr) (H : Hp) (v : V) (z : List Int) : Prop := ∃ a, v = .ref a ∧ a ≠ D ∧ H a = some (.lst (z.map V.int))
theorem rowD_keep {D : Addr} {H H' : Hp} {x : V} {z : List Int} (sb : SameBut D H H') (h : RowD D H x z) : RowD D H' x z := by
  obtain ⟨a, rfl, ne, ha⟩ := h
  exact ⟨a, rfl, ne, sb _ _ ne ha⟩

theorem call_len_seqK {X : Cx} {K : PySem.W.Frag} (hK : X.K = K) : CallR X (.builtin "len") (fun xs H Q => ∃ p ys, xs = [.ref p] ∧ (SqL K H p ys ∨ SqT K H p ys) ∧ Q (.int (ys.length : Nat)) H) := by
  subst hK
  exact call_len_seq

section
variable {P : Program} {w : World} {K : PySem.W.Frag} {mg : Str → Option Value} {base : Heap}
/-! ### _goes_on, _longest_fall -/
def lastI (f : List Int) : Int := co f (f.length - 1)
def goesB (p f : List Int) (k : Nat) : Bool := decide (f = []) || (decide (lastI f < (k : Int)) && decide (co p k < co p (lastI f).toNat))
def spGoes (K : PySem.W.Frag) : Sp := fun vs H Q _ => ∃ (a b : Addr) (p f : List Int) (k : Nat), vs = [.ref a, .ref b, .int (k : Int)] ∧ SqT K H a (p.map V.int) ∧ SqL K H b (f.map V.int) ∧ k < p.length ∧ (∀ x ∈ f, 0 ≤ x ∧ x < (p.length : Int)) ∧ f.length ≤ 1000 ∧ Q (.bl (goesB p f k)) H
theorem ok_goes_on_ {f : Addr} {fd : FuncData} (F : Fun K "_goes_on" "_goes_on" s_goes_on_ f fd) :
    FnOk P w K mg base CX0 1 f fd ["places", "fall", "k"] (spGoes K) := by
  refine F.ok sc_goes_on_ (fun vs H Q E h => ?_) (fun cdv A outer s H vs Q E hr h => ?_)
  · obtain ⟨a, b, p, f, k, rfl, _⟩ := h
    rfl
  · obtain ⟨a, b, p, f, k, rfl, ha, hb, hk, hf, lf, q⟩ := h
    refine ⟨_, (pss_one (ps_ret (pe_or (pe_notT (pv 1)) (pe_one (pe_and (pe_cmpR op_lt (pe_ix ix_list (pv 1) (pe_un un_neg pe_int) (fun _ _ => rfl)) (pv 2) (nomark _)) (pe_one (pe_cmpR op_gt (pe_ix ix_tup (pv 0) (pe_ix ix_list (pv 1) (pe_un un_neg pe_int) (fun _ _ => rfl)) (fun _ _ => rfl)) (pe_ix ix_tup (pv 0) (pv 2) (fun _ _ => rfl)) (nomark _)))))))), ?_⟩
    by_cases c : f = []
    · subst c
      exact ⟨_, rfl, false, .inl ⟨_, hb, rfl⟩, true, rfl, if_pos_of rfl q⟩
    · have lf0 : 0 < f.length := List.length_pos_iff.mpr c
      have ml : lastI f ∈ f := co_mem (by omega)
      obtain ⟨l0, l1⟩ := hf _ ml
      have eE : (f.map V.int).isEmpty = false := by
        cases f with
        | nil => exact absurd rfl c
        | cons _ _ => rfl
      refine ⟨_, rfl, true, .inl ⟨_, hb, by rw [eE]; rfl⟩, false, rfl, if_neg_of Bool.false_ne_true ?_⟩
      refine ⟨_, rfl, 1, rfl, b, _, -1, _, rfl, rfl, hb, at_end c, _, rfl, _, _, rfl, rfl, _, rfl, ?_⟩
      have eg : goesB p f k = (decide (lastI f < (k : Int)) && decide (co p k < co p (lastI f).toNat)) := by
        unfold goesB
        rw [decide_eq_false c, Bool.false_or]
      rw [eg] at q
      by_cases c1 : lastI f < (k : Int)
      · rw [decide_eq_true c1, Bool.true_and] at q
        refine if_pos_of (decide_eq_true c1) ?_
        have e1 : atI (p.map V.int) (lastI f) = some (.int (co p (lastI f).toNat)) := by
          have := at_co (l := p) (k := (lastI f).toNat) (by omega)
          rwa [show (((lastI f).toNat : Nat) : Int) = lastI f by omega] at this
        exact ⟨_, rfl, _, rfl, 1, rfl, b, _, -1, _, rfl, rfl, hb, at_end c, a, _, _, _, rfl, rfl, ha, e1, _, rfl, _, rfl, a, _, _, _, rfl, rfl, ha, at_co hk, _, _, rfl, rfl, q⟩
      · rw [decide_eq_false c1, Bool.false_and] at q
        exact if_neg_of (fun z => c1 (of_decide_eq_true z)) q
def stepF (p : List Int) (fs : List (List Int)) : List (List Int) := (fs.map fun f => ((List.range p.length).filter fun k => goesB p f k).map fun (k : Nat) => f ++ [(k : Int)]).flatten
def Fs (p : List Int) : Nat → List (List Int)
  | 0 => [[]]
  | j + 1 => stepF p (Fs p j)
theorem stepF_take (p : List Int) (l : List (List Int)) (i : Nat) : (stepF p (l.take i)).length ≤ (stepF p l).length := by
  conv => rhs; rw [← List.take_append_drop i l]
  unfold stepF
  rw [List.map_append, List.flatten_append, List.length_append]
  omega
theorem Fs_ok {p : List Int} : ∀ {j : Nat} {f : List Int}, f ∈ Fs p j → (∀ x ∈ f, 0 ≤ x ∧ x < (p.length : Int)) ∧ f.length = j := by
  intro j
  induction j with
  | zero =>
    intro f h
    rw [List.mem_singleton.mp h]
    exact ⟨fun x hx => (nomatch hx), rfl⟩
  | succ j ih =>
    intro f h
    obtain ⟨l, hl, hx⟩ := List.mem_flatten.mp (show f ∈ (_ : List (List (List Int))).flatten from h)
    obtain ⟨g, hg, rfl⟩ := List.mem_map.mp hl
    obtain ⟨k, hk, rfl⟩ := List.mem_map.mp hx
    obtain ⟨a, b⟩ := ih hg
    have hk := List.mem_range.mp (List.mem_filter.mp hk).1
    refine ⟨fun x hx => ?_, by rw [List.length_append, b]; rfl⟩
    rcases List.mem_append.mp hx with hx | hx
    · exact a x hx
    · rw [List.mem_singleton.mp hx]
      omega
def spLongF (K : PySem.W.Frag) : Sp := fun vs H Q _ => ∃ (a : Addr) (p : List Int) (J : Nat), vs = [.ref a] ∧ SqT K H a (p.map V.int) ∧ p.length ≤ 5 ∧ J ≤ 5 ∧ (∀ j, j ≤ J → Fs p j ≠ []) ∧ Fs p (J + 1) = [] ∧ (∀ j, j ≤ J + 1 → (Fs p j).length ≤ 1000) ∧
  ∀ t H', Same H H' → H' t = some (.lst (((Fs p J).headD []).map V.int)) → Q (.ref t) H'
theorem ok_longest_fall_ {f : Addr} {fd : FuncData} (F : Fun K "_longest_fall" "_longest_fall" s_longest_fall_ f fd) (z_len : mg "len" = none) (z_range : mg "range" = none)
    {a_goes_on_ : Addr} {fd_goes_on_ : FuncData} (G_goes_on_ : FnOk P w K mg base CX0 1 a_goes_on_ fd_goes_on_ ["places", "fall", "k"] (spGoes K)) (g_goes_on_ : mg "_goes_on" = some (.ref a_goes_on_)) (k_goes_on_ : PySem.W.keepIn K (.ref a_goes_on_) = true) (b_goes_on_ : Binds K fd_goes_on_ ["places", "fall", "k"] []) :
    FnOk P w K mg base CX0 2 f fd ["places"] (spLongF K) := by
  refine F.ok sc_longest_fall_ (fun vs H Q E h => ?_) (fun cdv A outer s H vs Q E hr h => ?_)
  · obtain ⟨a, p, J, rfl, _⟩ := h
    rfl
  · obtain ⟨a, p, J, rfl, ha, hp, hJ, h1, h2, h3, q⟩ := h
    refine ⟨_, (pss_cons (ps_set (i := 1) sc_longest_fall_.nd rfl (.inl rfl) (pe_lst pa_nil))
  (pss_cons (ps_set (i := 2) sc_longest_fall_.nd rfl (.inl rfl) (pe_lst (pa_cons (pe_lst pa_nil) pa_nil)))
  (pss_cons (ps_while PassesOwn.never (pt_truth (pv 2) (by intro _; rfl)) (pss_cons (ps_set (i := 1) sc_longest_fall_.nd rfl (.inl rfl) (pe_ix ix_list (pv 2) pe_int (fun _ _ => rfl)))
  (pss_one (ps_setLc2 (i := 2) (own := [("fall", 3), ("k", 4)]) (vs1 := [4]) rfl sc_longest_fall_.nd rfl rfl (sw_true rfl rfl rfl (by decide +kernel)) (pi_list (pv 2)) (blkOk_by (N := ["places", "longest", "falls", "fall", "k"]) (sc := defScope s_longest_fall_) (by decide +kernel)) (by decide) (fun _ _ _ _ _ => (pg_name (i := 3) sc_longest_fall_.nd rfl (.inl rfl))) (fun _ _ _ _ _ => pts_nil) (fun _ _ _ _ _ => (pi_range1 rfl z_range (pa_cons (pe_callB (call_len_seqK (K := K) rfl) (by rfl) z_len boot_len (pa_cons (pv 0) pa_nil)) pa_nil))) (fun _ _ _ _ _ => (pg_name (i := 4) sc_longest_fall_.nd rfl (.inl rfl))) (fun _ _ _ _ _ => pts_one (pt_val (pe_call G_goes_on_ (hr.mono (by decide)) rfl g_goes_on_ k_goes_on_ b_goes_on_ .nil pass0 (pa_cons (pv 0) (pa_cons (pv 3) (pa_cons (pv 4) pa_nil)))))) (fun _ _ _ _ _ => (pe_op op_cat (pv 3) (pe_lst (pa_cons (pv 4) pa_nil))))))))
  (pss_one (ps_ret (pv 1)))))), ?_⟩
    have szl : 20000 ≤ sizeLine := by decide
    refine ⟨(by show 0 ≤ sizeLine; omega), fun L nL => ⟨(by show 0 ≤ sizeLine; omega), fun e1 ne1 => ⟨(by show 1 ≤ sizeLine; omega), fun R0 nR0 => ?_⟩⟩⟩
    have hR1 : upd (upd (upd H L (.lst [])) e1 (.lst [])) R0 (.lst [.ref e1]) R0 = some (.lst [.ref e1]) := upd_same
    have w1 := same_upd (o := .lst []) nL
    have w2 := same_upd (o := .lst []) ne1
    have w3 := same_upd (o := .lst [V.ref e1]) nR0
    have h1e : upd (upd (upd H L (.lst [])) e1 (.lst [])) R0 (.lst [.ref e1]) e1 = some (.lst []) := w3 _ _ upd_same
    have s1 := Same.trans w1 (Same.trans w2 w3)
    have eR : e1 ≠ R0 := ne_of_none upd_same nR0
    generalize upd (upd (upd H L (.lst [])) e1 (.lst [])) R0 (.lst [.ref e1]) = H1 at *
    obtain ⟨W, hW⟩ : ∃ W : Nat → L2.St → Hp → Prop, W = fun m σ H' => ∃ (j : Nat) (lo R : Addr) (us : List V), m + j = J + 2 ∧ j ≤ J + 1 ∧ σ = [some (.ref a), some (.ref lo), some (.ref R), none, none] ∧ Same H H' ∧ H' R = some (.lst us) ∧ Paired (RowD R H') us (Fs p j) ∧
      ∀ i, j = i + 1 → H' lo = some (.lst (((Fs p i).headD []).map V.int)) := ⟨_, rfl⟩
    refine ⟨W, ⟨J + 2, by rw [hW]; exact ⟨0, L, R0, [.ref e1], rfl, by omega, rfl, s1, hR1, .cons ⟨e1, rfl, eR, h1e⟩ .nil, fun i h => by omega⟩⟩, fun m σ H2 h => ?_⟩
    have h' := h
    rw [hW] at h'
    obtain ⟨j, lo, R, us, em, hj, rfl, s2, hR, pu, hlo⟩ := h'
    have lu := pu.length
    refine ⟨_, rfl, !us.isEmpty, .inl ⟨us, .inl (.inl hR), rfl⟩, ?_⟩
    by_cases cj : j = J + 1
    · subst cj
      rw [h2] at lu
      have : us = [] := List.length_eq_zero_iff.mp lu
      subst this
      exact if_neg_of Bool.false_ne_true ⟨_, rfl, q lo H2 s2 (hlo J rfl)⟩
    · have nf := h1 j (by omega)
      obtain ⟨f0, fr, ef⟩ : ∃ f0 fr, Fs p j = f0 :: fr := by
        cases h : Fs p j with
        | nil => exact absurd h nf
        | cons x r => exact ⟨x, r, rfl⟩
      have eu : us ≠ [] := fun z => by rw [z, ef] at lu; exact nomatch lu
      refine if_pos_of (by cases us with | nil => exact absurd rfl eu | cons _ _ => rfl) ⟨W (m - 1), fun σ' H' w' => ⟨m - 1, by omega, w'⟩, ?_⟩
      obtain ⟨y, ey⟩ : ∃ y, us[0]? = some y := ⟨_, List.getElem?_eq_getElem (List.length_pos_iff.mpr eu)⟩
      obtain ⟨g, eg, x0, rfl, x0R, hx0⟩ := paired_get pu ey
      rw [ef] at eg
      obtain rfl : f0 = g := Option.some.inj eg
      refine ⟨_, rfl, R, us, 0, .ref x0, rfl, rfl, .inl (.inl hR), atI_nat (j := 0) ey, ?_⟩
      have lens := h3 j (by omega)
      have lens1 := h3 (j + 1) (by omega)
      refine ⟨_, rfl, R, rfl, ⟨_, .inl (.inl hR)⟩, fun D nD => ?_⟩
      have RD : R ≠ D := ne_of_none hR nD
      have kD : ∀ {H' : Hp}, SameBut D H2 H' → Same H2 H' := fun sb b o e => sb b o (ne_of_none e nD) e
      refine walkD_list (xs := us) (fun i H' => SameBut D H2 H' ∧ ∃ qs, H' D = some (.lst qs) ∧ Paired (RowD D H') qs (stepF p ((Fs p j).take i))) ⟨SameBut.upd, [], upd_same, .nil⟩ (fun i H' hP => .inl (.inl (hP.1 _ _ RD hR))) (fun i x H4 hi hP => ?_) (fun H4 hP => ?_)
      · obtain ⟨sb, qs, hD, pq⟩ := hP
        obtain ⟨f, er, ax, rfl, _, hax⟩ := paired_get pu hi
        have aD : ax ≠ D := ne_of_none hax nD
        have mf : f ∈ Fs p j := List.mem_of_getElem? er
        have okf := Fs_ok mf
        have et : stepF p ((Fs p j).take (i + 1)) = stepF p ((Fs p j).take i) ++ ((List.range p.length).filter fun k => goesB p f k).map fun (k : Nat) => f ++ [(k : Int)] := by
          rw [List.take_succ, er]
          unfold stepF
          rw [List.map_append, List.flatten_append]
          show _ ++ (_ ++ []) = _
          rw [List.append_nil]
        rw [et]
        refine ⟨rfl, _, rfl, a, _, rfl, .inr (sqT_same (fun b o e => kD sb b o (s2 b o e)) ha), ((p.map V.int).length : Nat), rfl, by omega, by rw [List.length_map]; omega, ?_⟩
        rw [List.length_map, show ((p.length : Nat) : Int).toNat = p.length from rfl]
        refine walkD_range (lo := 0) (n := p.length) (fun k H' => SameBut D H2 H' ∧ ∃ qs, H' D = some (.lst qs) ∧ qs.length ≤ 1000 + k ∧ Paired (RowD D H') qs (stepF p ((Fs p j).take i) ++ ((List.range k).filter fun k => goesB p f k).map fun (k : Nat) => f ++ [(k : Int)])) ⟨sb, qs, hD, by rw [pq.length]; exact Nat.le_trans (stepF_take p (Fs p j) i) lens1, by rw [List.range_zero]; simpa using pq⟩ (fun k H6 hk hP => ?_) (fun H6 hP => ?_)
        · obtain ⟨sb, us6, hD, l6, pu6⟩ := hP
          have ek : (0 : Int) + (k : Int) = (k : Int) := Int.zero_add _
          have ha6 := sb _ _ aD hax
          have er1 : List.range (k + 1) = List.range k ++ [k] := List.range_succ
          refine ⟨rfl, ?_⟩
          rw [ek]
          refine ⟨_, rfl, _, rfl, _, rfl, a, ax, p, f, k, rfl, sqT_same (fun b o e => kD sb b o (s2 b o e)) ha, .inl (.inl ha6), hk, okf.1, (by have := okf.2; omega), _, rfl, ?_⟩
          rw [er1, List.filter_append, List.map_append, List.filter_cons]
          by_cases c : goesB p f k = true
          · rw [if_pos c]
            refine if_pos_of c ⟨_, rfl, _, rfl, (by show 1 ≤ sizeLine; omega), fun q1 nq1 => ?_⟩
            have x1 := same_upd (o := .lst [V.int (k : Int)]) nq1
            refine ⟨_, _, _, _, rfl, rfl, x1 _ _ ha6, upd_same, by rw [List.length_map]; have := okf.2; show _ + 1 ≤ _; omega, fun q2 nq2 => ?_⟩
            have x2 := Same.trans x1 (same_upd (o := .lst (f.map V.int ++ [.int (k : Int)])) nq2)
            have hq2 : upd (upd H6 q1 (.lst [V.int (k : Int)])) q2 (.lst (f.map V.int ++ [.int (k : Int)])) q2 = some (.lst ((f ++ [(k : Int)]).map V.int)) := by rw [upd_same, List.map_append]; rfl
            have hD7 := x2 _ _ hD
            have q2D : q2 ≠ D := fun e => by
              rw [e] at nq2
              exact nomatch nq2.symm.trans (x1 _ _ hD)
            generalize upd (upd H6 q1 (.lst [V.int (k : Int)])) q2 (.lst (f.map V.int ++ [.int (k : Int)])) = H7 at *
            refine ⟨_, hD7, by omega, sb.trans fun b o nb e => SameBut.upd b o nb (x2 b o e), _, upd_same, by rw [List.length_append]; show _ + 1 ≤ _; omega, ?_⟩
            rw [← List.append_assoc]
            exact paired_add ⟨q2, rfl, q2D, SameBut.upd _ _ q2D hq2⟩ (Paired.mapP pu6 fun _ _ h => rowD_keep (fun b o nb e => SameBut.upd b o nb (x2 b o e)) h)
          · rw [if_neg c]
            refine if_neg_of c ⟨sb, us6, hD, by omega, ?_⟩
            show Paired _ _ (_ ++ (_ ++ []))
            rw [List.append_nil]
            exact pu6
        · obtain ⟨sb, us6, hD, l6, pu6⟩ := hP
          exact ⟨sb, us6, hD, pu6⟩
      · obtain ⟨sb, qs, hD, pq⟩ := hP
        rw [lu, List.take_length] at pq
        rw [hW]
        refine ⟨j + 1, x0, D, qs, by omega, by omega, rfl, Same.trans s2 (kD sb), hD, pq, fun i h => ?_⟩
        obtain rfl : i = j := by omega
        rw [ef]
        exact kD sb _ _ hx0
end

theorem pg_tupK {X : Cx} {K : PySem.W.Frag} (hK : X.K = K) {es : List Expr} {k : Nat} {t : TGs} {n : Nat} {pos : Pos} (hc : X.calm = true) (h : PGs X es t)
    (hn : (assignEach es X.env).length = n := by rfl) (hst : (assignEach es X.env).findIdx? (·.1) = none := by rfl) : PG X (.Tuple es k pos) (gTup K n t) := by
  subst hK
  exact pg_tup hc h hn hst
theorem sl_tupK {X : Cx} {K : PySem.W.Frag} (hK : X.K = K) : SlR X (rSlT K) := by
  subst hK
  exact sl_tup

/-! ### _descents, _sign, _thread, _check_places -/
def IsArr (p : List Int) : Prop := p.Perm (ixs p.length)
instance (p : List Int) : Decidable (IsArr p) := by unfold IsArr; infer_instance
def desR (p : List Int) (i : Nat) : Nat := ((p.drop (i + 1)).filter fun l => decide (l < co p i)).length
def desC (p : List Int) (i : Nat) : Nat := ((List.range i).map (desR p)).sum
theorem desC_succ (p : List Int) (i : Nat) : desC p (i + 1) = desC p i + desR p i := by
  unfold desC
  rw [List.range_succ, List.map_append, List.sum_append]
  simp
def thrL (p : List Int) (n : Nat) (i : Nat) : List (List Int) := (List.range i).map fun (k : Nat) => [(k : Int), (n : Int) + co p k]
section
variable {P : Program} {w : World} {K : PySem.W.Frag} {mg : Str → Option Value} {base : Heap}
def spDes (K : PySem.W.Frag) : Sp := fun vs H Q _ => ∃ (a : Addr) (p : List Int), vs = [.ref a] ∧ SqT K H a (p.map V.int) ∧ p.length ≤ 20 ∧ ∀ H', Same H H' → Q (.int (desC p p.length : Nat)) H'
theorem ok_descents_ {f : Addr} {fd : FuncData} (F : Fun K "_descents" "_descents" s_descents_ f fd) (z_len : mg "len" = none) (z_enumerate : mg "enumerate" = none) :
    FnOk P w K mg base CX0 1 f fd ["places"] (spDes K) := by
  refine F.ok sc_descents_ (fun vs H Q E h => ?_) (fun cdv A outer s H vs Q E hr h => ?_)
  · obtain ⟨a, p, rfl, _⟩ := h
    rfl
  · obtain ⟨a, p, rfl, ha, hp, q⟩ := h
    refine ⟨_, (pss_one (ps_ret (pe_callB call_len_seq (by rfl) z_len boot_len (pa_cons (pe_lc2 (own := [("k", 1), ("high", 2), ("low", 3)]) (vs1 := [3]) rfl sc_descents_.nd (pi_enumT rfl z_enumerate (pa_cons (pv 0) pa_nil)) (blkOk_by (N := ["places", "k", "high", "low"]) (sc := defScope s_descents_) (by decide +kernel)) (by decide) (fun _ _ _ _ _ => (pg_tupK (n := 2) (K := K) rfl rfl (pgs_cons (pg_name (i := 1) sc_descents_.nd rfl (.inl rfl)) (pgs_cons (pg_name (i := 2) sc_descents_.nd rfl (.inl rfl)) pgs_nil)))) (fun _ _ _ _ _ => pts_nil) (fun _ _ _ _ _ => ((pi_tupK (K := K) rfl) (pe_slice (sl_tupK (K := K) rfl) (pv 0) (po_some (pe_op op_add (pv 1) pe_int)) po_none))) (fun _ _ _ _ _ => (pg_name (i := 3) sc_descents_.nd rfl (.inl rfl))) (fun _ _ _ _ _ => pts_one (pt_cmpR op_gt (pv 2) (pv 3) (nomark _))) (fun _ _ _ _ _ => pe_int)) pa_nil)))), ?_⟩
    have szl : 20000 ≤ sizeLine := by decide
    refine ⟨_, rfl, a, _, rfl, ha, fun D nD => ?_⟩
    have kD : ∀ {H' : Hp}, SameBut D H H' → Same H H' := fun sb b o e => sb b o (ne_of_none e nD) e
    refine outer_it walk_enumT (fun i H' => SameBut D H H' ∧ H' D = some (.lst (List.replicate (desC p i) (V.int 1))) ∧ desC p i ≤ 20 * i) ⟨SameBut.upd, upd_same, Nat.zero_le _⟩ (fun i H' _ hP => sqT_same (kD hP.1) ha) (fun i x H1 H2 hi hP hy => ?_) (fun H1 hP => ?_)
    · obtain ⟨sb, hD, bd⟩ := hP
      obtain ⟨t, x, y', rfl, nt, rfl, ex, ey⟩ := hy
      obtain rfl : V.int (i : Nat) = x := Option.some.inj ex
      rw [List.length_map] at hi
      have ey2 : (p.map V.int)[i]? = some (.int (co p i)) := by rw [List.getElem?_map, co_get hi]; rfl
      obtain rfl : V.int (co p i) = y' := Option.some.inj (ey2.symm.trans ey)
      refine ⟨t, _, rfl, .inl (.inl upd_same), rfl, _, _, rfl, _, _, rfl, rfl, rfl, ?_⟩
      have w1 := same_upd (o := .tup [.int (i : Nat), .int (co p i)]) nt
      have sb1 : SameBut D H (upd H1 t (.tup [.int (i : Nat), .int (co p i)])) := sb.trans (Same.but w1)
      have hD1 := w1 _ _ hD
      generalize upd H1 t (.tup [.int (i : Nat), .int (co p i)]) = H3 at *
      refine ⟨_, rfl, _, rfl, _, _, rfl, rfl, _, rfl, a, _, rfl, sqT_same (kD sb1) ha, ?_, fun u nu => ?_⟩
      · rintro ⟨z, _⟩
        rw [List.length_map] at z
        have e := HT.sIx_nat p.length 0 (i + 1)
        rw [show (((i + 1 : Nat) : Int)) = (i : Int) + 1 from rfl] at e
        have z : HT.sIx p.length 0 (some ((i : Int) + 1)) = 0 := z
        rw [e] at z
        omega
      have eC : cutV (p.map V.int) (some ((i : Int) + 1)) none = (p.drop (i + 1)).map V.int := by
        have := cutN_from (l := p) (b := i + 1) (by omega)
        rwa [show (((i + 1 : Nat) : Int)) = (i : Int) + 1 from rfl] at this
      have w2 := same_upd (o := .tup (cutV (p.map V.int) (some ((i : Int) + 1)) none)) nu
      have hu : upd H3 u (.tup (cutV (p.map V.int) (some ((i : Int) + 1)) none)) u = some (.tup ((p.drop (i + 1)).map V.int)) := by rw [upd_same, eC]
      have sb2 : SameBut D H (upd H3 u (.tup (cutV (p.map V.int) (some ((i : Int) + 1)) none))) := sb1.trans (Same.but w2)
      have hD2 := w2 _ _ hD1
      generalize upd H3 u (.tup (cutV (p.map V.int) (some ((i : Int) + 1)) none)) = H4 at *
      have uD : u ≠ D := fun z => by rw [z, hD2] at hu; exact nomatch hu
      refine ⟨u, rfl, ⟨_, .inl (.inl hu)⟩, outer_it walk_tup (fun j H' => SameBut D H4 H' ∧ H' D = some (.lst (List.replicate (desC p i + (((p.drop (i + 1)).take j).filter fun l => decide (l < co p i)).length) (V.int 1)))) ⟨SameBut.refl _ _, by rw [List.take_zero]; exact hD2⟩ (fun j H' _ hP => .inl (.inl (hP.1 _ _ uD hu))) (fun j y H5 H6 hj hP hy => ?_) (fun H5 hP => ?_)⟩
      · obtain ⟨sb3, hD3⟩ := hP
        obtain ⟨rfl, ey⟩ := hy
        rw [List.length_map] at hj
        have ey2 : ((p.drop (i + 1)).map V.int)[j]? = some (.int (co (p.drop (i + 1)) j)) := by rw [List.getElem?_map, co_get hj]; rfl
        obtain rfl : V.int (co (p.drop (i + 1)) j) = y := Option.some.inj (ey2.symm.trans ey)
        refine ⟨rfl, ?_⟩
        refine ⟨_, rfl, _, rfl, _, _, rfl, rfl, _, rfl, ?_⟩
        have fl : (((p.drop (i + 1)).take (j + 1)).filter fun l => decide (l < co p i)) = (((p.drop (i + 1)).take j).filter fun l => decide (l < co p i)) ++ (if co (p.drop (i + 1)) j < co p i then [co (p.drop (i + 1)) j] else []) := by
          rw [take_snoc hj, List.filter_append, List.filter_cons]
          by_cases c : co (p.drop (i + 1)) j < co p i
          · rw [if_pos c, decide_eq_true c]; rfl
          · rw [if_neg c, decide_eq_false c]; rfl
        have fb : ((((p.drop (i + 1)).take j).filter fun l => decide (l < co p i))).length ≤ 20 := by
          refine Nat.le_trans (List.length_filter_le _ _) ?_
          rw [List.length_take, List.length_drop]
          omega
        by_cases c : co (p.drop (i + 1)) j < co p i
        · refine if_pos_of (decide_eq_true c) ⟨_, hD3, by rw [List.length_replicate]; omega, sb3.trans SameBut.upd, ?_⟩
          rw [upd_same, fl, if_pos c, List.length_append, ← Nat.add_assoc]
          congr 2
          exact List.replicate_succ'.symm
        · refine if_neg_of (fun z => c (of_decide_eq_true z)) ⟨sb3, ?_⟩
          rw [fl, if_neg c, List.append_nil]
          exact hD3
      · obtain ⟨sb3, hD3⟩ := hP
        rw [List.length_map, List.take_length] at hD3
        have fb : desR p i ≤ 20 := by
          unfold desR
          refine Nat.le_trans (List.length_filter_le _ _) ?_
          rw [List.length_drop]
          omega
        exact ⟨sb2.trans sb3, by rw [desC_succ]; exact hD3, by rw [desC_succ]; omega⟩
    · obtain ⟨sb, hD, _⟩ := hP
      rw [List.length_map] at hD
      refine ⟨D, _, rfl, .inl (.inl (.inl hD)), ?_⟩
      rw [List.length_replicate]
      exact q _ (kD sb)
def sgn (p : List Int) : Int := if desC p p.length % 2 = 0 then 1 else -1
def spSgn (K : PySem.W.Frag) : Sp := fun vs H Q _ => ∃ (a : Addr) (p : List Int), vs = [.ref a] ∧ SqT K H a (p.map V.int) ∧ p.length ≤ 20 ∧ ∀ H', Same H H' → Q (.int (sgn p)) H'
theorem ok_sign_ {f : Addr} {fd : FuncData} (F : Fun K "_sign" "_sign" s_sign_ f fd) {a_descents_ : Addr} {fd_descents_ : FuncData} (G_descents_ : FnOk P w K mg base CX0 1 a_descents_ fd_descents_ ["places"] (spDes K)) (g_descents_ : mg "_descents" = some (.ref a_descents_)) (k_descents_ : PySem.W.keepIn K (.ref a_descents_) = true) (b_descents_ : Binds K fd_descents_ ["places"] []) :
    FnOk P w K mg base CX0 2 f fd ["places"] (spSgn K) := by
  refine F.ok sc_sign_ (fun vs H Q E h => ?_) (fun cdv A outer s H vs Q E hr h => ?_)
  · obtain ⟨a, p, rfl, _⟩ := h
    rfl
  · obtain ⟨a, p, rfl, ha, hp, q⟩ := h
    refine ⟨_, (pss_one (ps_ret (pe_ifExp (pt_cmpR op_eq (pe_op op_mod (pe_call G_descents_ (hr.mono (by decide)) rfl g_descents_ k_descents_ b_descents_ .nil pass0 (pa_cons (pv 0) pa_nil)) pe_int) pe_int (nomark _)) pe_int (pe_un un_neg pe_int)))), ?_⟩
    refine ⟨_, rfl, a, p, rfl, ha, hp, fun H1 s1 => ?_⟩
    refine ⟨(desC p p.length : Nat), 2, rfl, rfl, (show (0 : Int) < 2 by decide), rfl, _, rfl, ?_⟩
    have q := q H1 s1
    unfold sgn at q
    by_cases c : desC p p.length % 2 = 0
    · rw [if_pos c] at q
      exact if_pos_of (decide_eq_true (congrArg V.int (show ((desC p p.length : Nat) : Int) % 2 = 0 by omega))) q
    · rw [if_neg c] at q
      exact if_neg_of (fun z => c (by have := V.int.inj (of_decide_eq_true z); omega)) ⟨1, rfl, q⟩
def spThreadP (K : PySem.W.Frag) : Sp := fun vs H Q _ => ∃ (a : Addr) (p : List Int), vs = [.ref a] ∧ SqT K H a (p.map V.int) ∧ p.length ≤ 20 ∧ ∀ v H', Same H H' → DGv H' v (p.length : Int) (p.length : Int) (thrL p p.length p.length) → Q v H'
theorem ok_thread_ {f : Addr} {fd : FuncData} (F : Fun K "_thread" "_thread" s_thread_ f fd) (z_len : mg "len" = none) (z_enumerate : mg "enumerate" = none) (z_tuple : mg "tuple" = none) :
    FnOk P w K mg base CX0 1 f fd ["places"] (spThreadP K) := by
  refine F.ok sc_thread_ (fun vs H Q E h => ?_) (fun cdv A outer s H vs Q E hr h => ?_)
  · obtain ⟨a, p, rfl, _⟩ := h
    rfl
  · obtain ⟨a, p, rfl, ha, hp, q⟩ := h
    refine ⟨_, (pss_cons (ps_set (i := 1) sc_thread_.nd rfl (.inr rfl) (pe_callB call_len_seq (by rfl) z_len boot_len (pa_cons (pv 0) pa_nil)))
  (pss_one (ps_ret (pe_tup (pa_cons (pv 1) (pa_cons (pv 1) (pa_cons (pe_callTy call_tuple_of (by rfl) z_tuple boot_tuple (pa_cons (pe_lc (own := [("k", 2), ("place", 3)]) rfl sc_thread_.nd (pi_enumT rfl z_enumerate (pa_cons (pv 0) pa_nil)) (blkOk_by (N := ["places", "n", "k", "place"]) (sc := defScope s_thread_) (by first | decide +kernel | rfl)) (fun _ _ _ _ _ => (pg_tupK (n := 2) (K := K) rfl rfl (pgs_cons (pg_name (i := 2) sc_thread_.nd rfl (.inl rfl)) (pgs_cons (pg_name (i := 3) sc_thread_.nd rfl (.inl rfl)) pgs_nil)))) (fun _ _ _ _ _ => pts_nil) (fun _ _ _ _ _ => (pe_tup (pa_cons (pv 2) (pa_cons (pe_op op_add (pv 1) (pv 3)) pa_nil))))) pa_nil)) pa_nil))))))), ?_⟩
    have szl : 20000 ≤ sizeLine := by decide
    refine ⟨_, rfl, a, _, rfl, .inr ha, ?_⟩
    rw [List.length_map]
    refine ⟨_, rfl, _, rfl, _, rfl, a, _, rfl, ha, fun D nD => ?_⟩
    have kD : ∀ {H' : Hp}, SameBut D H H' → Same H H' := fun sb b o e => sb b o (ne_of_none e nD) e
    refine lc_it walk_enumT (fun i H' => SameBut D H H' ∧ ∃ ts, H' D = some (.lst ts) ∧ Paired (TP H') ts (thrL p p.length i)) ⟨SameBut.upd, [], upd_same, .nil⟩ (fun i H' _ hP => sqT_same (kD hP.1) ha) (fun i x H1 H2 hi hP hy => ?_) (fun H1 hP => ?_)
    · obtain ⟨sb, ts, hD, pt⟩ := hP
      obtain ⟨t, x, y', rfl, nt, rfl, ex, ey⟩ := hy
      obtain rfl : V.int (i : Nat) = x := Option.some.inj ex
      rw [List.length_map] at hi
      have ey2 : (p.map V.int)[i]? = some (.int (co p i)) := by rw [List.getElem?_map, co_get hi]; rfl
      obtain rfl : V.int (co p i) = y' := Option.some.inj (ey2.symm.trans ey)
      refine ⟨t, _, rfl, .inl (.inl upd_same), rfl, _, _, rfl, _, _, rfl, rfl, rfl, ?_⟩
      have w1 := same_upd (o := .tup [.int (i : Nat), .int (co p i)]) nt
      refine ⟨_, rfl, _, rfl, _, rfl, _, _, rfl, rfl, (by show 2 ≤ sizeLine; omega), fun u nu => ?_⟩
      have w2 := Same.trans w1 (same_upd (o := .tup [.int (i : Nat), .int ((p.length : Int) + co p i)]) nu)
      have hD2 := w2 _ _ hD
      have lt := pt.length
      rw [show (thrL p p.length i).length = i by unfold thrL; rw [List.length_map, List.length_range]] at lt
      have e1 : thrL p p.length (i + 1) = thrL p p.length i ++ [[(i : Int), (p.length : Int) + co p i]] := by
        unfold thrL
        rw [List.range_succ, List.map_append]
        rfl
      refine ⟨ts, hD2, by omega, (sb.trans (Same.but w2)).trans SameBut.upd, _, upd_same, ?_⟩
      rw [e1]
      exact Paired.mapP (paired_add ⟨u, rfl, upd_same⟩ (Paired.mapP pt fun _ _ h => h.same w2)) fun _ _ h => TP.butL hD2 SameBut.upd h
    · obtain ⟨sb, ts, hD, pt⟩ := hP
      rw [List.length_map] at pt
      refine ⟨D, _, rfl, .inl ⟨.inl (.inl hD), fun tb ntb => ?_⟩⟩
      refine ⟨(by show 3 ≤ sizeLine; omega), fun t nt => ?_⟩
      have q3 := same_upd (o := .tup ts) ntb
      have q4 := same_upd (o := .tup [.int (p.length : Nat), .int (p.length : Nat), .ref tb]) nt
      have sf := Same.trans q3 q4
      exact q (.ref t) _ (Same.trans (kD sb) sf) ⟨t, .ref tb, rfl, upd_same, tb, _, rfl, q4 _ _ upd_same, Paired.mapP pt fun _ _ h => h.same sf⟩
def spCheckP (K : PySem.W.Frag) (CD CB : Addr) : Sp := fun vs H Q E => ∃ (a : Addr) (p : List Int), vs = [.ref a] ∧ SqT K H a (p.map V.int) ∧ p.length ≤ 20 ∧ (¬ IsArr p → ∀ H', Same H H' → E (.ref CD) none H') ∧ (IsArr p → (5 < p.length → ∀ H', Same H H' → E (.ref CB) none H') ∧ (p.length ≤ 5 → ∀ H', Same H H' → Q .non H'))
theorem ok_check_places_ {f CD CB : Addr} {fd : FuncData} {t5 : Tok} (F : Fun K "_check_places" "_check_places" s_check_places_ f fd) (T : ErrC K mg "NotDiagram" CD) (T2 : ErrC K mg "BadNumber" CB) (m_MOST_PLACES : mg "MOST_PLACES" = some (.int 5 t5)) (z_sorted : mg "sorted" = none) (z_list : mg "list" = none) (z_range : mg "range" = none) (z_len : mg "len" = none) :
    FnOk P w K mg base (L2N.CX P w) 1 f fd ["places"] (spCheckP K CD CB) := by
  obtain ⟨gc_NotDiagram, x_NotDiagram, kc_NotDiagram, bc_NotDiagram, tc_NotDiagram⟩ := T
  obtain ⟨gc_BadNumber, x_BadNumber, kc_BadNumber, bc_BadNumber, tc_BadNumber⟩ := T2
  have r_MOST_PLACES : RelV (.int 5) (.int 5 t5) := ⟨_, rfl⟩
  refine F.okXN sc_check_places_ (fun vs H Q E h => ?_) (fun cdv A outer s H vs Q E hr h => ?_)
  · obtain ⟨a, p, rfl, _⟩ := h
    rfl
  · obtain ⟨a, p, rfl, ha, hp, q1, q⟩ := h
    refine ⟨_, (pss_cons (ps_if (pt_cmpR (op_neD (room64 hr)) (pe_callB (cr_sortedITK (K := K) rfl) (by rfl) z_sorted boot_sorted (pa_cons (pv 0) pa_nil)) (pe_listRg rfl rfl z_list (prg_1 rfl z_range (pe_callB call_len_seq (by rfl) z_len boot_len (pa_cons (pv 0) pa_nil)))) (nomark _)) (pss_one (L2N.ps_raise rfl (L2N.takes_of rfl rfl rfl rfl) (L2N.pmk_own PySem.F.excBase_ValueError x_NotDiagram gc_NotDiagram kc_NotDiagram (raises_own bc_NotDiagram tc_NotDiagram) rfl))) pss_nil)
  (pss_one (ps_if (pt_cmpR op_gt (pe_callB call_len_seq (by rfl) z_len boot_len (pa_cons (pv 0) pa_nil)) (pe_glob rfl m_MOST_PLACES r_MOST_PLACES) (nomark _)) (pss_one (L2N.ps_raise rfl (L2N.takes_of rfl rfl rfl rfl) (L2N.pmk_own PySem.F.excBase_ValueError x_BadNumber gc_BadNumber kc_BadNumber (raises_own bc_BadNumber tc_BadNumber) rfl))) pss_nil))), ?_⟩
    have szl : 20000 ≤ sizeLine := by decide
    refine ⟨_, rfl, a, p, rfl, ha, fun ns d1 pm srt n1 => ?_⟩
    have w1 := same_upd (o := .lst (ns.map V.int)) n1
    refine ⟨_, rfl, a, _, rfl, .inr (sqT_same w1 ha), _, rfl, (by rw [List.length_map]; show _ ∧ _; constructor <;> omega), fun d2 n2 => ?_⟩
    rw [List.length_map]
    have w2 := same_upd (o := .lst (rgV 0 (p.length : Nat))) n2
    have h1 := w2 _ _ (upd_same (H := H) (a := d1) (o := .lst (ns.map V.int)))
    have h2 : upd (upd H d1 (.lst (ns.map V.int))) d2 (.lst (rgV 0 (p.length : Nat))) d2 = some (.lst ((ixs p.length).map V.int)) := by
      rw [upd_same]
      congr 2
      unfold rgV ixs
      rw [List.map_map, show ((p.length : Int) - 0).toNat = p.length by omega]
      exact List.map_congr_left fun i _ => by show V.int (0 + (i : Int)) = V.int (i : Int); rw [Int.zero_add]
    have w12 := Same.trans w1 w2
    generalize upd (upd H d1 (.lst (ns.map V.int))) d2 (.lst (rgV 0 (p.length : Nat))) = H2 at *
    refine neD_LP ⟨d1, rfl, h1⟩ ⟨d2, rfl, h2⟩ ⟨_, rfl, ?_⟩
    by_cases c : IsArr p
    · have e : ns = ixs p.length := sorted_same (pm.trans c) srt (ixs_asc _)
      rw [decide_eq_true e]
      refine if_neg_of Bool.false_ne_true ?_
      refine ⟨_, rfl, a, _, rfl, .inr (sqT_same w12 ha), _, _, rfl, rfl, _, rfl, ?_⟩
      rw [List.length_map]
      by_cases c5 : p.length ≤ 5
      · exact if_neg_of (fun z => by have := of_decide_eq_true z; omega) ((q c).2 c5 H2 w12)
      · exact if_pos_of (decide_eq_true (by omega)) ((q c).1 (by omega) H2 w12)
    · have e : ¬ ns = ixs p.length := fun z => c (pm.symm.trans (by rw [z]))
      rw [decide_eq_false e]
      exact if_pos_of rfl (q1 c H2 w12)
end

/-! ### what holds of each arrangement of up to five places -/
def dpt (p : List Int) : Nat := if Fs p 1 = [] then 0 else if Fs p 2 = [] then 1 else if Fs p 3 = [] then 2 else if Fs p 4 = [] then 3 else if Fs p 5 = [] then 4 else 5
def lngF (p : List Int) : List Int := (Fs p (dpt p)).headD []
/-- the law's falls -/
def lawF (p : List Int) : Nat → List (List Int)
  | 0 => [[]]
  | k + 1 => lawF p k ++ ((lawF p k).filter fun f => decide (f = []) || decide (co p k < co p (lastI f).toNat)).map fun f => f ++ [(k : Int)]
def maxL : List (List Int) → Nat
  | [] => 0
  | f :: r => max f.length (maxL r)
def lawD (p : List Int) : Nat := maxL (lawF p p.length)
def dueL (p : List Int) : List (List Int) := (lawF p p.length).filter fun f => decide (f.length = lawD p)
def minI (b : List Int) (bs : List (List Int)) : List Int := bs.foldl (fun a y => if decide (y < a) = true then y else a) b
def invP (p : List Int) : List Int := (ixs p.length).map fun v => ((p.idxOf v : Nat) : Int)
def lawDes (p : List Int) (i : Nat) : Nat := ((List.range i).map fun k => ((p.take k).filter fun l => decide (co p k < l)).length).sum
def arrB (p : List Int) : Bool := (ixs p.length).all fun v => decide (v ∈ p)
def fin68 (p : List Int) : Bool := decide (dpt p ≤ 5) && (List.range (dpt p + 1)).all (fun j => decide (Fs p j ≠ [])) && decide (Fs p (dpt p + 1) = []) && (List.range (dpt p + 2)).all (fun j => decide ((Fs p j).length ≤ 1000)) &&
  (arrB (invP p) && decide ((invP p).length = p.length) && (invP p).all (fun x => decide (0 ≤ x ∧ x < (p.length : Int)))) && decide (sgn (invP p) = sgn p ∧ sgn p = 1 - 2 * (((lawDes p p.length : Nat) : Int) % 2)) &&
  (decide (thrL p p.length p.length = blocksOf (ixs p.length ++ invP p)) && inFam "threads" (p.length : Int) (thrL p p.length p.length)) &&
  (match dueL p with | [] => false | b :: bs => decide (minI b bs = lngF p)) && decide ((lngF p).length = lawD p ∧ (lngF (invP p)).length = lawD p) && decide ((lawF p p.length).length ≤ 1000) && ((lngF p).all (fun x => decide (0 ≤ x ∧ x < 5)) && decide ((lngF p).length ≤ 5)) && decide ((thrL p p.length p.length).map (fun b => co b 1 - (p.length : Int)) = p)
theorem fin68_all : (List.range 6).all (fun n => (rowsC n n).all fun p => !arrB p || fin68 p) = true := by decide +kernel
theorem arr_in {p : List Int} (h : IsArr p) : ∀ x ∈ p, 0 ≤ x ∧ x < (p.length : Int) := fun x hx => mem_ixs.mp (h.mem_iff.mp hx)
theorem fin68_of {p : List Int} (h : IsArr p) (l5 : p.length ≤ 5) : fin68 p = true := by
  have h1 := List.all_eq_true.mp fin68_all p.length (List.mem_range.mpr (by omega))
  have h2 := List.all_eq_true.mp h1 p (rowsC_mem rfl (arr_in h))
  have h3 : arrB p = true := List.all_eq_true.mpr fun v hv => decide_eq_true (h.mem_iff.mpr hv)
  rw [h3] at h2
  exact h2
theorem nodup_iff_len {L ns : List Int} (nd : L.Nodup) (h : ∀ k, k ∈ L ↔ k ∈ ns) : L.length = ns.length ↔ ns.Nodup := by
  constructor
  · intro e
    by_cases c : ns.Nodup
    · exact c
    · exfalso
      have p : ∀ (ns L : List Int), L.Nodup → (∀ k ∈ L, k ∈ ns) → ¬ ns.Nodup → L.length < ns.length := by
        intro ns
        induction ns with
        | nil => intro L _ _ c; exact absurd List.nodup_nil c
        | cons a ns ih =>
          intro L nd hs c
          by_cases ha : a ∈ ns
          · have : ∀ k ∈ L, k ∈ ns := fun k hk => (List.mem_cons.mp (hs k hk)).elim (fun e => e ▸ ha) id
            have := List.Nodup.length_le_of_subset nd this
            rw [List.length_cons]
            omega
          · have c' : ¬ ns.Nodup := fun z => c (List.nodup_cons.mpr ⟨ha, z⟩)
            have := ih (L.erase a) (nd.erase a) (fun k hk => (List.mem_cons.mp (hs k (List.mem_of_mem_erase hk))).elim (fun e => absurd (e ▸ hk) (List.Nodup.not_mem_erase nd)) id) c'
            have le : L.length ≤ (L.erase a).length + 1 := by rw [List.length_erase]; split <;> omega
            rw [List.length_cons]
            omega
      have := p ns L nd (fun k hk => (h k).mp hk) c
      omega
  · intro c
    exact Nat.le_antisymm (List.Nodup.length_le_of_subset nd fun k hk => (h k).mp hk) (List.Nodup.length_le_of_subset c fun k hk => (h k).mpr hk)
theorem arr_of {p : List Int} (h : arrB p = true) (hb : ∀ x ∈ p, 0 ≤ x ∧ x < (p.length : Int)) : IsArr p := by
  have sub : ∀ v ∈ ixs p.length, v ∈ p := fun v hv => of_decide_eq_true (List.all_eq_true.mp h v hv)
  have nd : p.Nodup := (nodup_iff_len (ixs_nodup p.length) fun k => ⟨sub k, fun hk => mem_ixs.mpr (hb k hk)⟩).mp (ixs_len' _)
  refine (List.perm_ext_iff_of_nodup nd (ixs_nodup _)).mpr fun k => ⟨fun hk => mem_ixs.mpr (hb k hk), sub k⟩
structure Fin68 (p : List Int) : Prop where
  d5 : dpt p ≤ 5
  ne : ∀ j, j ≤ dpt p → Fs p j ≠ []
  em : Fs p (dpt p + 1) = []
  le : ∀ j, j ≤ dpt p + 1 → (Fs p j).length ≤ 1000
  iv : IsArr (invP p)
  il : (invP p).length = p.length
  sg : sgn (invP p) = sgn p
  sl : sgn p = 1 - 2 * (((lawDes p p.length : Nat) : Int) % 2)
  th : thrL p p.length p.length = blocksOf (ixs p.length ++ invP p)
  ti : inFam "threads" (p.length : Int) (thrL p p.length p.length) = true
  du : ∃ b bs, dueL p = b :: bs ∧ minI b bs = lngF p
  l1 : (lngF p).length = lawD p
  l2 : (lngF (invP p)).length = lawD p
  lf : (lawF p p.length).length ≤ 1000
  lb : ∀ x ∈ lngF p, 0 ≤ x ∧ x < 5
  ll : (lngF p).length ≤ 5
  ar : (thrL p p.length p.length).map (fun b => co b 1 - (p.length : Int)) = p
theorem fin_of {p : List Int} (h : IsArr p) (l5 : p.length ≤ 5) : Fin68 p := by
  have f := fin68_of h l5
  unfold fin68 at f
  simp only [Bool.and_eq_true, decide_eq_true_eq, List.all_eq_true, List.mem_range] at f
  obtain ⟨⟨⟨⟨⟨⟨⟨⟨⟨⟨⟨f1, f2⟩, f3⟩, f4⟩, ⟨f5, f6⟩, f7⟩, f8, f9⟩, f10, f11⟩, f12⟩, f13, f14⟩, f15⟩, f16, f17⟩, f18⟩ := f
  refine ⟨f1, fun j hj => f2 j (by omega), f3, fun j hj => f4 j (by omega), arr_of f5 fun x hx => by rw [f6]; exact f7 x hx, f6, f8, f9, f10, f11, ?_, f13, f14, f15, f16, f17, f18⟩
  cases e : dueL p with
  | nil => rw [e] at f12; exact nomatch f12
  | cons b bs => rw [e] at f12; exact ⟨b, bs, rfl, of_decide_eq_true f12⟩

section
variable {P : Program} {w : World} {K : PySem.W.Frag} {mg : Str → Option Value} {base : Heap}
/-! ### thread, sign, longest_fall, arrangement: with their errors -/
def Chk (CD CB : Addr) (p : List Int) (H : Hp) (E : Value → Option Addr → Hp → Prop) (R : Prop) : Prop := (¬ IsArr p → ∀ H', Same H H' → E (.ref CD) none H') ∧ (IsArr p → (5 < p.length → ∀ H', Same H H' → E (.ref CB) none H') ∧ (p.length ≤ 5 → R))
def spThreadE (K : PySem.W.Frag) (CD CB : Addr) : Sp := fun vs H Q E => ∃ (a : Addr) (p : List Int), vs = [.ref a] ∧ SqT K H a (p.map V.int) ∧ p.length ≤ 20 ∧ Chk CD CB p H E (∀ v H', Same H H' → DGv H' v (p.length : Int) (p.length : Int) (thrL p p.length p.length) → Q v H')
theorem ok_thread {f CD CB : Addr} {fd : FuncData} (F : Fun K "thread" "thread" s_thread f fd) {a_check_places_ : Addr} {fd_check_places_ : FuncData} (G_check_places_ : FnOk P w K mg base (L2N.CX P w) 1 a_check_places_ fd_check_places_ ["places"] (spCheckP K CD CB)) (g_check_places_ : mg "_check_places" = some (.ref a_check_places_)) (k_check_places_ : PySem.W.keepIn K (.ref a_check_places_) = true) (b_check_places_ : Binds K fd_check_places_ ["places"] [])
    {a_thread_ : Addr} {fd_thread_ : FuncData} (G_thread_ : FnOk P w K mg base CX0 1 a_thread_ fd_thread_ ["places"] (spThreadP K)) (g_thread_ : mg "_thread" = some (.ref a_thread_)) (k_thread_ : PySem.W.keepIn K (.ref a_thread_) = true) (b_thread_ : Binds K fd_thread_ ["places"] []) :
    FnOk P w K mg base (L2N.CX P w) 2 f fd ["places"] (spThreadE K CD CB) := by
  refine F.okXN sc_thread (fun vs H Q E h => ?_) (fun cdv A outer s H vs Q E hr h => ?_)
  · obtain ⟨a, p, rfl, _⟩ := h
    rfl
  · obtain ⟨a, p, rfl, ha, hp, c1, c2⟩ := h
    refine ⟨_, (pss_cons (ps_expr (pe_call G_check_places_ (hr.mono (by decide)) rfl g_check_places_ k_check_places_ b_check_places_ .nil (L2N.passes_call (L2N.takes_of rfl rfl rfl rfl) (fun _ _ _ _ h => h)) (pa_cons (pv 0) pa_nil)))
  (pss_one (ps_ret (pe_call G_thread_ (hr.mono (by decide)) rfl g_thread_ k_thread_ b_thread_ .nil pass0 (pa_cons (pv 0) pa_nil))))), ?_⟩
    exact ⟨_, rfl, a, p, rfl, ha, hp, c1, fun i => ⟨(c2 i).1, fun l5 H1 s1 => ⟨_, rfl, a, p, rfl, sqT_same s1 ha, hp, fun v H2 s2 dv => (c2 i).2 l5 v H2 (Same.trans s1 s2) dv⟩⟩⟩
def spSignE (K : PySem.W.Frag) (CD CB : Addr) : Sp := fun vs H Q E => ∃ (a : Addr) (p : List Int), vs = [.ref a] ∧ SqT K H a (p.map V.int) ∧ p.length ≤ 20 ∧ Chk CD CB p H E (∀ H', Same H H' → Q (.int (sgn p)) H')
theorem ok_sign {f CD CB : Addr} {fd : FuncData} (F : Fun K "sign" "sign" s_sign f fd) {a_check_places_ : Addr} {fd_check_places_ : FuncData} (G_check_places_ : FnOk P w K mg base (L2N.CX P w) 1 a_check_places_ fd_check_places_ ["places"] (spCheckP K CD CB)) (g_check_places_ : mg "_check_places" = some (.ref a_check_places_)) (k_check_places_ : PySem.W.keepIn K (.ref a_check_places_) = true) (b_check_places_ : Binds K fd_check_places_ ["places"] [])
    {a_sign_ : Addr} {fd_sign_ : FuncData} (G_sign_ : FnOk P w K mg base CX0 2 a_sign_ fd_sign_ ["places"] (spSgn K)) (g_sign_ : mg "_sign" = some (.ref a_sign_)) (k_sign_ : PySem.W.keepIn K (.ref a_sign_) = true) (b_sign_ : Binds K fd_sign_ ["places"] []) :
    FnOk P w K mg base (L2N.CX P w) 3 f fd ["places"] (spSignE K CD CB) := by
  refine F.okXN sc_sign (fun vs H Q E h => ?_) (fun cdv A outer s H vs Q E hr h => ?_)
  · obtain ⟨a, p, rfl, _⟩ := h
    rfl
  · obtain ⟨a, p, rfl, ha, hp, c1, c2⟩ := h
    refine ⟨_, (pss_cons (ps_expr (pe_call G_check_places_ (hr.mono (by decide)) rfl g_check_places_ k_check_places_ b_check_places_ .nil (L2N.passes_call (L2N.takes_of rfl rfl rfl rfl) (fun _ _ _ _ h => h)) (pa_cons (pv 0) pa_nil)))
  (pss_one (ps_ret (pe_call G_sign_ (hr.mono (by decide)) rfl g_sign_ k_sign_ b_sign_ .nil pass0 (pa_cons (pv 0) pa_nil))))), ?_⟩
    exact ⟨_, rfl, a, p, rfl, ha, hp, c1, fun i => ⟨(c2 i).1, fun l5 H1 s1 => ⟨_, rfl, a, p, rfl, sqT_same s1 ha, hp, fun H2 s2 => (c2 i).2 l5 H2 (Same.trans s1 s2)⟩⟩⟩
def spLongE (K : PySem.W.Frag) (CD CB : Addr) : Sp := fun vs H Q E => ∃ (a : Addr) (p : List Int), vs = [.ref a] ∧ SqT K H a (p.map V.int) ∧ p.length ≤ 20 ∧ Chk CD CB p H E (∀ t H', Same H H' → H' t = some (.lst ((lngF p).map V.int)) → Q (.ref t) H')
theorem ok_longest_fall {f CD CB : Addr} {fd : FuncData} (F : Fun K "longest_fall" "longest_fall" s_longest_fall f fd) {a_check_places_ : Addr} {fd_check_places_ : FuncData} (G_check_places_ : FnOk P w K mg base (L2N.CX P w) 1 a_check_places_ fd_check_places_ ["places"] (spCheckP K CD CB)) (g_check_places_ : mg "_check_places" = some (.ref a_check_places_)) (k_check_places_ : PySem.W.keepIn K (.ref a_check_places_) = true) (b_check_places_ : Binds K fd_check_places_ ["places"] [])
    {a_longest_fall_ : Addr} {fd_longest_fall_ : FuncData} (G_longest_fall_ : FnOk P w K mg base CX0 2 a_longest_fall_ fd_longest_fall_ ["places"] (spLongF K)) (g_longest_fall_ : mg "_longest_fall" = some (.ref a_longest_fall_)) (k_longest_fall_ : PySem.W.keepIn K (.ref a_longest_fall_) = true) (b_longest_fall_ : Binds K fd_longest_fall_ ["places"] []) :
    FnOk P w K mg base (L2N.CX P w) 3 f fd ["places"] (spLongE K CD CB) := by
  refine F.okXN sc_longest_fall (fun vs H Q E h => ?_) (fun cdv A outer s H vs Q E hr h => ?_)
  · obtain ⟨a, p, rfl, _⟩ := h
    rfl
  · obtain ⟨a, p, rfl, ha, hp, c1, c2⟩ := h
    refine ⟨_, (pss_cons (ps_expr (pe_call G_check_places_ (hr.mono (by decide)) rfl g_check_places_ k_check_places_ b_check_places_ .nil (L2N.passes_call (L2N.takes_of rfl rfl rfl rfl) (fun _ _ _ _ h => h)) (pa_cons (pv 0) pa_nil)))
  (pss_one (ps_ret (pe_call G_longest_fall_ (hr.mono (by decide)) rfl g_longest_fall_ k_longest_fall_ b_longest_fall_ .nil pass0 (pa_cons (pv 0) pa_nil))))), ?_⟩
    refine ⟨_, rfl, a, p, rfl, ha, hp, c1, fun i => ⟨(c2 i).1, fun l5 H1 s1 => ?_⟩⟩
    have f := fin_of i l5
    exact ⟨_, rfl, a, p, dpt p, rfl, sqT_same s1 ha, l5, f.d5, f.ne, f.em, f.le, fun t H2 s2 ht => (c2 i).2 l5 t H2 (Same.trans s1 s2) ht⟩
def belL (n : Int) (bs : List (List Int)) : List Int := bs.map fun b => co b 1 - n
def spArrE (CD CB : Addr) : Sp := fun vs H Q E => ∃ (v : V) (n m : Int) (bs : List (List Int)), vs = [v] ∧ DGv H v n m bs ∧ DgOk n m bs ∧ (¬ IsDg n m bs → ∀ H', Same H H' → E (.ref CD) none H') ∧
  (IsDg n m bs → (inFam "threads" n bs = false → ∀ H', Same H H' → E (.ref CB) none H') ∧ (inFam "threads" n bs = true → ∀ t H', Same H H' → TP H' (.ref t) (belL n bs) → Q (.ref t) H'))
theorem ok_arrangement {f CF CD CB : Addr} {fd : FuncData} (F : Fun K "arrangement" "arrangement" s_arrangement f fd) (T : ErrC K mg "BadNumber" CB) (z_tuple : mg "tuple" = none) {a_is_in : Addr} {fd_is_in : FuncData} (G_is_in : FnOk P w K mg base (L2N.CX P w) 4 a_is_in fd_is_in ["family", "diagram"] (spIsIn CF CD)) (g_is_in : mg "is_in" = some (.ref a_is_in)) (k_is_in : PySem.W.keepIn K (.ref a_is_in) = true) (b_is_in : Binds K fd_is_in ["family", "diagram"] []) :
    FnOk P w K mg base (L2N.CX P w) 5 f fd ["diagram"] (spArrE CD CB) := by
  obtain ⟨gc_BadNumber, x_BadNumber, kc_BadNumber, bc_BadNumber, tc_BadNumber⟩ := T
  refine F.okXN sc_arrangement (fun vs H Q E h => ?_) (fun cdv A outer s H vs Q E hr h => ?_)
  · obtain ⟨v, n, m, bs, rfl, _⟩ := h
    rfl
  · obtain ⟨v, n, m, bs, rfl, hv, dok, q1, q⟩ := h
    refine ⟨_, (pss_cons (ps_if (pt_not (pt_val (pe_call G_is_in (hr.mono (by decide)) rfl g_is_in k_is_in b_is_in .nil (L2N.passes_call (L2N.takes_of rfl rfl rfl rfl) (fun _ _ _ _ h => h)) (pa_cons pe_str (pa_cons (pv 0) pa_nil))))) (pss_one (L2N.ps_raise rfl (L2N.takes_of rfl rfl rfl rfl) (L2N.pmk_own PySem.F.excBase_ValueError x_BadNumber gc_BadNumber kc_BadNumber (raises_own bc_BadNumber tc_BadNumber) rfl))) pss_nil)
  (pss_one (ps_ret (pe_callTy call_tuple_of (by rfl) z_tuple boot_tuple (pa_cons (pe_lc (own := [("_", 1), ("below", 2)]) rfl sc_arrangement.nd ((pi_tupK (K := K) rfl) (pe_ix ix_tup (pv 0) pe_int (fun _ _ => rfl))) (blkOk_by (N := ["diagram", "_", "below"]) (sc := defScope s_arrangement) (by first | decide +kernel | rfl)) (fun _ _ _ _ _ => (pg_tupK (n := 2) (K := K) rfl rfl (pgs_cons (pg_name (i := 1) sc_arrangement.nd rfl (.inl rfl)) (pgs_cons (pg_name (i := 2) sc_arrangement.nd rfl (.inl rfl)) pgs_nil)))) (fun _ _ _ _ _ => pts_nil) (fun _ _ _ _ _ => (pe_op op_sub (pv 2) (pe_ix (ix_tupK (K := K) rfl) (pv 0) pe_int (fun _ _ => rfl))))) pa_nil))))), ?_⟩
    have szl : 20000 ≤ sizeLine := by decide
    refine ⟨_, rfl, "threads", v, n, m, bs, rfl, hv, dok, fun z => absurd (by decide) z, fun _ nd => q1 nd, fun _ dg H1 s1 => ⟨_, rfl, ?_⟩⟩
    have few := dg.few
    by_cases c : inFam "threads" n bs = true
    · rw [c]
      refine if_neg_of Bool.false_ne_true ?_
      have q := (q dg).2 c
      obtain ⟨t, vb, rfl, ht, tb, ts, rfl, htb, pr⟩ := id (hv.same s1)
      refine ⟨_, rfl, t, _, 2, _, rfl, rfl, .inl (.inl ht), atI_nat (j := 2) rfl, tb, rfl, ⟨_, .inl (.inl htb)⟩, fun D nD => ?_⟩
      have kD : ∀ {H' : Hp}, SameBut D H1 H' → Same H1 H' := fun sb b o e => sb b o (ne_of_none e nD) e
      refine lc_it walk_tup (fun i H' => SameBut D H1 H' ∧ H' D = some (.lst (((belL n (bs.take i))).map V.int))) ⟨SameBut.upd, upd_same⟩ (fun i H' _ hP => .inl (.inl (kD hP.1 _ _ htb))) (fun i x H2 H3 hi hP hy => ?_) (fun H2 hP => ?_)
      · obtain ⟨sb, hD⟩ := hP
        obtain ⟨rfl, ey⟩ := hy
        obtain ⟨b, eb, u, rfl, hu⟩ := tt_get pr ey
        have mb := List.mem_of_getElem? eb
        have sb2 : blockOk "threads" n b = true := List.all_eq_true.mp c b mb
        have sb3 : strandB n b = true := sb2
        obtain ⟨l2, _⟩ := Bool.and_eq_true_iff.mp sb3
        have l2 := of_decide_eq_true l2
        obtain ⟨x, y, rfl⟩ : ∃ x y, b = [x, y] := by
          match b, l2 with
          | [x, y], _ => exact ⟨x, y, rfl⟩
        refine ⟨u, _, rfl, .inl (.inl (kD sb _ _ hu)), rfl, _, _, rfl, _, _, rfl, rfl, rfl, ?_⟩
        have bl : (bs.take i).length ≤ 1000 := by
          have := few.1
          rw [List.length_take]
          omega
        refine ⟨_, rfl, _, rfl, t, _, 0, _, rfl, rfl, .inl (.inl (kD sb _ _ ht)), atI_nat (j := 0) rfl, _, _, rfl, rfl, _, hD, by unfold belL; rw [List.length_map, List.length_map]; omega, sb.trans SameBut.upd, ?_⟩
        rw [upd_same, List.take_succ, eb]
        unfold belL
        rw [List.map_append, List.map_append]
        rfl
      · obtain ⟨sb, hD⟩ := hP
        rw [pr.length, List.take_length] at hD
        refine ⟨D, _, rfl, .inl ⟨.inl (.inl hD), fun u nu => ?_⟩⟩
        exact q u _ (Same.trans s1 (Same.trans (kD sb) (same_upd nu))) ⟨u, rfl, upd_same⟩
    · rw [Bool.not_eq_true _ |>.mp c]
      exact if_pos_of rfl ((q dg).1 (Bool.not_eq_true _ |>.mp c) H1 s1)
end

section
variable {P : Program} {w : World} {K : PySem.W.Frag} {mg : Str → Option Value} {base : Heap}
/-! ### _law_places, _law_thread, _law_descents, _law_falls, _law_depth -/
theorem seqIx_nat68 {n k : Nat} (h : k < n) : seqIndex? (k : Int) n = some k := by
  have e0 : ¬ ((k : Int) < 0) := by omega
  simp only [seqIndex?, if_neg e0]
  rw [if_pos (by simp; omega)]
  rfl
theorem erase_map68 : ∀ (l : List Int) (k : Nat), (l.map V.int).eraseIdx k = (l.eraseIdx k).map V.int
  | [], _ => rfl
  | _ :: _, 0 => rfl
  | a :: l, k + 1 => congrArg (V.int a :: ·) (erase_map68 l k)
theorem erase_perm68 : ∀ (l : List Int) (j : Nat) (h : j < l.length), (l[j] :: l.eraseIdx j).Perm l
  | a :: l, 0, _ => List.Perm.refl _
  | a :: l, j + 1, h => (List.Perm.swap a (l[j]'(Nat.lt_of_succ_lt_succ h)) (l.eraseIdx j)).trans (List.Perm.cons a (erase_perm68 l j (Nat.lt_of_succ_lt_succ h)))
theorem mod_nat68 (x : Int) {k : Int} (h : 0 < k) : ∃ j : Nat, (j : Int) < k ∧ x % k = (j : Int) := ⟨(x % k).toNat, by have := Int.emod_lt_of_pos x h; have := Int.emod_nonneg x (show k ≠ 0 by omega); omega, by have := Int.emod_nonneg x (show k ≠ 0 by omega); omega⟩
theorem rgV_ixsN (n : Nat) : rgV 0 (n : Int) = (ixs n).map V.int := by
  unfold rgV ixs
  rw [List.map_map, show ((n : Int) - 0).toNat = n by omega]
  exact List.map_congr_left fun i _ => by show V.int (0 + (i : Int)) = V.int (i : Int); rw [Int.zero_add]
def spPlaces68 : Sp := fun vs H Q _ => ∃ (r : Addr) (ds : List Int) (most : Nat), vs = [.ref r, .int (most : Int)] ∧ most ≤ 20 ∧ H r = some (.lst (ds.map V.int)) ∧ ∀ (t : Addr) (p ds' : List Int) (H' : Hp), SameBut r H H' → H' r = some (.lst (ds'.map V.int)) → (∃ o : Obj, o.dict = none ∧ H' t = some (.frz o (.tup (p.map V.int)))) → IsArr p → p.length ≤ most → Q (.ref t) H'
theorem ok_law_places {f : Addr} {fd : FuncData} (F : Fun K "_law_places" "_law_places" s_law_places f fd) (z_int : mg "int" = none) (z_len : mg "len" = none) (z_list : mg "list" = none) (z_range : mg "range" = none) (z_tuple : mg "tuple" = none)
    {a_law_next : Addr} {fd_law_next : FuncData} (G_law_next : FnOk P w K mg base CX0 1 a_law_next fd_law_next ["draws"] spNext) (g_law_next : mg "_law_next" = some (.ref a_law_next)) (k_law_next : PySem.W.keepIn K (.ref a_law_next) = true) (b_law_next : Binds K fd_law_next ["draws"] []) :
    FnOk P w K mg base CX0 2 f fd ["draws", "most"] spPlaces68 := by
  refine F.ok sc_law_places (fun vs H Q E h => ?_) (fun cdv A outer s H vs Q E hr h => ?_)
  · obtain ⟨r, ds, most, rfl, _⟩ := h
    rfl
  · obtain ⟨r, ds, most, rfl, hm, hR, q⟩ := h
    refine ⟨_, (pss_cons (ps_set (i := 2) sc_law_places.nd rfl (.inl rfl) (pe_listRg rfl rfl z_list (prg_1 rfl z_range (pe_op op_mod (pe_callTy call_int1 (by rfl) z_int boot_int (pa_cons (pe_call G_law_next (hr.mono (by decide)) rfl g_law_next k_law_next b_law_next .nil pass0 (pa_cons (pv 0) pa_nil)) pa_nil)) (pe_op op_add (pv 1) pe_int)))))
  (pss_cons (ps_set (i := 3) sc_law_places.nd rfl (.inl rfl) (pe_lst pa_nil))
  (pss_cons (ps_for PassesOwn.never rfl (pi_range1 rfl z_range (pa_cons (pe_callB call_len_seq (by rfl) z_len boot_len (pa_cons (pv 2) pa_nil)) pa_nil)) (pg_name (i := 4) sc_law_places.nd rfl (.inl rfl)) (pss_one (ps_expr (pe_bm PySem.F.plainAttrs_list PySem.F.slot_list_append PySem.F.type_list_append mt_append (pv 3) (pa_cons (pe_bm PySem.F.plainAttrs_list PySem.F.slot_list_pop PySem.F.type_list_pop mt_popAt (pv 2) (pa_cons (pe_op op_mod (pe_callTy call_int1 (by rfl) z_int boot_int (pa_cons (pe_call G_law_next (hr.mono (by decide)) rfl g_law_next k_law_next b_law_next .nil pass0 (pa_cons (pv 0) pa_nil)) pa_nil)) (pe_callB call_len_seq (by rfl) z_len boot_len (pa_cons (pv 2) pa_nil))) pa_nil)) pa_nil)))))
  (pss_one (ps_ret (pe_callTy L2.call_tuple_ofF (by rfl) z_tuple boot_tuple (pa_cons (pv 3) pa_nil))))))), ?_⟩
    have szl : 20000 ≤ sizeLine := by decide
    refine ⟨_, rfl, r, ds, rfl, hR, fun n0 ds1 => .inl ⟨n0, rfl, _, rfl, _, _, rfl, rfl, n0, _, rfl, rfl, (by omega), ?_⟩⟩
    obtain ⟨n, hn, en⟩ := mod_nat68 n0 (show (0 : Int) < (most : Int) + 1 by omega)
    dsimp only
    rw [en]
    refine ⟨_, rfl, (by show _ ∧ _; constructor <;> omega), fun L nL => ?_⟩
    rw [rgV_ixsN]
    have r1 : upd H r (.lst (ds1.map V.int)) r = some (.lst (ds1.map V.int)) := upd_same
    have sb1 : SameBut r H (upd H r (.lst (ds1.map V.int))) := SameBut.upd
    generalize upd H r (.lst (ds1.map V.int)) = H1 at *
    have rL : r ≠ L := ne_of_none r1 nL
    have w1 := same_upd (o := .lst ((ixs n).map V.int)) nL
    have hL1 : upd H1 L (.lst ((ixs n).map V.int)) L = some (.lst ((ixs n).map V.int)) := upd_same
    have hr1 := w1 _ _ r1
    have fL : H L = none := by
      cases e : H L with
      | none => rfl
      | some o => exact nomatch nL.symm.trans (sb1 _ _ (Ne.symm rL) e)
    have sb1 := sb1.trans (Same.but w1)
    generalize upd H1 L (.lst ((ixs n).map V.int)) = H2 at *
    refine ⟨(by show 0 ≤ sizeLine; omega), fun B nB => ?_⟩
    have rB : r ≠ B := ne_of_none hr1 nB
    have LB : L ≠ B := ne_of_none hL1 nB
    have fB : H B = none := by
      cases e : H B with
      | none => rfl
      | some o => exact nomatch nB.symm.trans (sb1 _ _ (Ne.symm rB) e)
    have w2 := same_upd (o := .lst []) nB
    have hB2 : upd H2 B (.lst []) B = some (.lst []) := upd_same
    have hL2 := w2 _ _ hL1
    have hr2 := w2 _ _ hr1
    have sb2 := sb1.trans (Same.but w2)
    generalize upd H2 B (.lst []) = H3 at *
    refine ⟨_, rfl, L, _, rfl, .inl (.inl (.inl hL2)), _, rfl, by omega, by rw [List.length_map, ixs_len']; omega, ?_⟩
    rw [List.length_map, ixs_len', show ((n : Nat) : Int).toNat = n from rfl]
    refine for_range (lo := 0) (n := n) (fun k σ H' => ∃ (v4 : Option V) (ds ls ps : List Int), σ = [some (.ref r), some (.int (most : Int)), some (.ref L), some (.ref B), v4] ∧ (∀ b o, b ≠ r → H b = some o → H' b = some o) ∧ H' r = some (.lst (ds.map V.int)) ∧ H' L = some (.lst (ls.map V.int)) ∧ H' B = some (.lst (ps.map V.int)) ∧ (ps ++ ls).Perm (ixs n) ∧ ps.length = k)
      ⟨none, ds1, ixs n, [], rfl, sb2, hr2, hL2, hB2, List.Perm.refl _, rfl⟩ (fun k σ H4 hk hP => ?_) (fun σ H4 hP => ?_)
    · obtain ⟨v4, ds2, ls, ps, rfl, keep, hr', hL', hB', pm, lp⟩ := hP
      have ll : ls.length = n - k := by
        have := pm.length_eq
        rw [List.length_append, ixs_len', lp] at this
        omega
      refine ⟨_, rfl, .inl ⟨rfl, _, .inl (.inl hB')⟩, _, rfl, .inl ⟨rfl, _, .inl (.inl hL')⟩, _, rfl, r, ds2, rfl, hr', fun n1 ds3 => .inl ⟨n1, rfl, ?_⟩⟩
      have hL4 : upd H4 r (.lst (ds3.map V.int)) L = some (.lst (ls.map V.int)) := by rw [upd_ne (Ne.symm rL)]; exact hL'
      have hB4 : upd H4 r (.lst (ds3.map V.int)) B = some (.lst (ps.map V.int)) := by rw [upd_ne (Ne.symm rB)]; exact hB'
      have hr4 : upd H4 r (.lst (ds3.map V.int)) r = some (.lst (ds3.map V.int)) := upd_same
      have kp4 : ∀ b o, b ≠ r → H b = some o → upd H4 r (.lst (ds3.map V.int)) b = some o := fun b o nb e => by rw [upd_ne nb]; exact keep b o nb e
      generalize upd H4 r (.lst (ds3.map V.int)) = H5 at *
      refine ⟨_, rfl, L, _, rfl, .inl (.inl (.inl hL4)), ?_⟩
      rw [List.length_map]
      refine ⟨n1, _, rfl, rfl, (by omega), ?_⟩
      obtain ⟨j, hj, ej⟩ := mod_nat68 n1 (show (0 : Int) < (ls.length : Int) by omega)
      dsimp only
      rw [ej]
      have hj : j < ls.length := by omega
      refine ⟨L, _, _, j, .int (co ls j), rfl, rfl, hL4, by omega, by omega, by rw [List.length_map]; exact seqIx_nat68 hj, by rw [List.getElem?_map, co_get hj]; rfl, ?_⟩
      rw [erase_map68]
      have hB6 : upd H5 L (.lst ((ls.eraseIdx j).map V.int)) B = some (.lst (ps.map V.int)) := by rw [upd_ne (Ne.symm LB)]; exact hB4
      refine ⟨B, _, _, rfl, rfl, hB6, by rw [List.length_map]; omega, _, ds3, ls.eraseIdx j, ps ++ [co ls j], rfl, fun b o nb e => ?_, ?_, ?_, ?_, ?_, by rw [List.length_append, lp]; rfl⟩
      · have e5 := kp4 b o nb e
        have bL : b ≠ L := fun z => by rw [z, fL] at e; exact nomatch e
        have bB : b ≠ B := fun z => by rw [z, fB] at e; exact nomatch e
        rw [upd_ne bB, upd_ne bL]
        exact e5
      · rw [upd_ne rB, upd_ne rL]; exact hr4
      · rw [upd_ne LB, upd_same]
      · rw [upd_same, List.map_append]; rfl
      · refine List.Perm.trans ?_ pm
        rw [List.append_assoc]
        refine List.Perm.append_left _ ?_
        have e := co_get hj
        rw [List.getElem?_eq_getElem hj] at e
        rw [← Option.some.inj e]
        exact erase_perm68 ls j hj
    · obtain ⟨v4, ds2, ls, ps, rfl, keep, hr', hL', hB', pm, lp⟩ := hP
      have ll : ls = [] := by
        have := pm.length_eq
        rw [List.length_append, ixs_len', lp] at this
        exact List.length_eq_zero_iff.mp (by omega)
      subst ll
      rw [List.append_nil] at pm
      refine ⟨_, rfl, B, _, rfl, .inl (.inl hB'), fun t o ho nt => ?_⟩
      have w3 := same_upd (o := .frz o (.tup (ps.map V.int))) nt
      exact q t ps ds2 _ (fun b o nb e => w3 _ _ (keep b o nb e)) (w3 _ _ hr') ⟨o, ho, upd_same⟩ (by unfold IsArr; rw [lp]; exact pm) (by omega)
def spLThread (K : PySem.W.Frag) : Sp := fun vs H Q _ => ∃ (a : Addr) (p : List Int), vs = [.ref a] ∧ SqT K H a (p.map V.int) ∧ p.length ≤ 20 ∧ ∀ v H', Same H H' → DGv H' v (p.length : Int) (p.length : Int) (thrL p p.length p.length) → Q v H'
theorem ok_law_thread {f : Addr} {fd : FuncData} (F : Fun K "_law_thread" "_law_thread" s_law_thread f fd) (z_len : mg "len" = none) (z_range : mg "range" = none) (z_tuple : mg "tuple" = none) :
    FnOk P w K mg base CX0 1 f fd ["places"] (spLThread K) := by
  refine F.ok sc_law_thread (fun vs H Q E h => ?_) (fun cdv A outer s H vs Q E hr h => ?_)
  · obtain ⟨a, p, rfl, _⟩ := h
    rfl
  · obtain ⟨a, p, rfl, ha, hp, q⟩ := h
    refine ⟨_, (pss_cons (ps_set (i := 1) sc_law_thread.nd rfl (.inr rfl) (pe_callB call_len_seq (by rfl) z_len boot_len (pa_cons (pv 0) pa_nil)))
  (pss_one (ps_ret (pe_tup (pa_cons (pv 1) (pa_cons (pv 1) (pa_cons (pe_callTy call_tuple_of (by rfl) z_tuple boot_tuple (pa_cons (pe_lc (own := [("at", 2)]) rfl sc_law_thread.nd (pi_range1 rfl z_range (pa_cons (pv 1) pa_nil)) (blkOk_by (N := ["places", "n", "at"]) (sc := defScope s_law_thread) (by first | decide +kernel | rfl)) (fun _ _ _ _ _ => (pg_name (i := 2) sc_law_thread.nd rfl (.inl rfl))) (fun _ _ _ _ _ => pts_nil) (fun _ _ _ _ _ => (pe_tup (pa_cons (pv 2) (pa_cons (pe_op op_add (pv 1) (pe_ix (ix_tupK (K := K) rfl) (pv 0) (pv 2) (fun _ _ => rfl))) pa_nil))))) pa_nil)) pa_nil))))))), ?_⟩
    have szl : 20000 ≤ sizeLine := by decide
    refine ⟨_, rfl, a, _, rfl, .inr ha, ?_⟩
    rw [List.length_map]
    refine ⟨_, rfl, _, rfl, _, rfl, (p.length : Nat), rfl, by omega, by omega, fun D nD => ?_⟩
    rw [show ((p.length : Nat) : Int).toNat = p.length from rfl]
    have kD : ∀ {H' : Hp}, SameBut D H H' → Same H H' := fun sb b o e => sb b o (ne_of_none e nD) e
    refine lc_range (lo := 0) (n := p.length) (fun i H' => SameBut D H H' ∧ ∃ ts, H' D = some (.lst ts) ∧ Paired (TP H') ts (thrL p p.length i)) ⟨SameBut.upd, [], upd_same, .nil⟩ (fun i H1 hi hP => ?_) (fun H1 hP => ?_)
    · obtain ⟨sb, ts, hD, pt⟩ := hP
      have ei : (0 : Int) + (i : Int) = (i : Int) := Int.zero_add _
      refine ⟨rfl, ?_⟩
      rw [ei]
      refine ⟨_, rfl, _, rfl, _, rfl, _, rfl, a, _, _, _, rfl, rfl, sqT_same (kD sb) ha, at_co hi, _, _, rfl, rfl, (by show 2 ≤ sizeLine; omega), fun u nu => ?_⟩
      have w2 := same_upd (o := .tup [.int (i : Nat), .int ((p.length : Int) + co p i)]) nu
      have hD2 := w2 _ _ hD
      have lt := pt.length
      rw [show (thrL p p.length i).length = i by unfold thrL; rw [List.length_map, List.length_range]] at lt
      have e1 : thrL p p.length (i + 1) = thrL p p.length i ++ [[(i : Int), (p.length : Int) + co p i]] := by
        unfold thrL
        rw [List.range_succ, List.map_append]
        rfl
      refine ⟨ts, hD2, by omega, (sb.trans (Same.but w2)).trans SameBut.upd, _, upd_same, ?_⟩
      rw [e1]
      exact Paired.mapP (paired_add ⟨u, rfl, upd_same⟩ (Paired.mapP pt fun _ _ h => h.same w2)) fun _ _ h => TP.butL hD2 SameBut.upd h
    · obtain ⟨sb, ts, hD, pt⟩ := hP
      refine ⟨D, _, rfl, .inl ⟨.inl (.inl hD), fun tb ntb => ?_⟩⟩
      refine ⟨(by show 3 ≤ sizeLine; omega), fun t nt => ?_⟩
      have q3 := same_upd (o := .tup ts) ntb
      have q4 := same_upd (o := .tup [.int (p.length : Nat), .int (p.length : Nat), .ref tb]) nt
      have sf := Same.trans q3 q4
      exact q (.ref t) _ (Same.trans (kD sb) sf) ⟨t, .ref tb, rfl, upd_same, tb, _, rfl, q4 _ _ upd_same, Paired.mapP pt fun _ _ h => h.same sf⟩
theorem lawDes_succ (p : List Int) (i : Nat) : lawDes p (i + 1) = lawDes p i + ((p.take i).filter fun l => decide (co p i < l)).length := by
  unfold lawDes
  rw [List.range_succ, List.map_append, List.sum_append]
  simp
def spLDes (K : PySem.W.Frag) : Sp := fun vs H Q _ => ∃ (a : Addr) (p : List Int), vs = [.ref a] ∧ SqT K H a (p.map V.int) ∧ p.length ≤ 20 ∧ ∀ H', Same H H' → Q (.int (lawDes p p.length : Nat)) H'
theorem ok_law_descents {f : Addr} {fd : FuncData} (F : Fun K "_law_descents" "_law_descents" s_law_descents f fd) (z_len : mg "len" = none) (z_range : mg "range" = none) :
    FnOk P w K mg base CX0 1 f fd ["places"] (spLDes K) := by
  refine F.ok sc_law_descents (fun vs H Q E h => ?_) (fun cdv A outer s H vs Q E hr h => ?_)
  · obtain ⟨a, p, rfl, _⟩ := h
    rfl
  · obtain ⟨a, p, rfl, ha, hp, q⟩ := h
    refine ⟨_, (pss_cons (ps_set (i := 1) sc_law_descents.nd rfl (.inl rfl) pe_int)
  (pss_cons (ps_for PassesOwn.never rfl (pi_range1 rfl z_range (pa_cons (pe_callB call_len_seq (by rfl) z_len boot_len (pa_cons (pv 0) pa_nil)) pa_nil)) (pg_name (i := 2) sc_law_descents.nd rfl (.inr rfl)) (pss_one (ps_set (i := 1) sc_law_descents.nd rfl (.inl rfl) (pe_op op_add (pv 1) (pe_callB call_len_seq (by rfl) z_len boot_len (pa_cons (pe_lc (own := [("place", 3)]) rfl sc_law_descents.nd ((pi_tupK (K := K) rfl) (pe_slice (sl_tupK (K := K) rfl) (pv 0) po_none (po_some (pv 2)))) (blkOk_by (N := ["places", "total", "at", "place"]) (sc := defScope s_law_descents) (by first | decide +kernel | rfl)) (fun _ _ _ _ _ => (pg_name (i := 3) sc_law_descents.nd rfl (.inl rfl))) (fun _ _ _ _ _ => pts_one (pt_cmpR op_gt (pv 3) (pe_ix (ix_tupK (K := K) rfl) (pv 0) (pv 2) (fun _ _ => rfl)) (nomark _))) (fun _ _ _ _ _ => (pv 3))) pa_nil))))))
  (pss_one (ps_ret (pv 1))))), ?_⟩
    have szl : 20000 ≤ sizeLine := by decide
    refine ⟨_, rfl, a, _, rfl, .inr ha, _, rfl, by omega, by rw [List.length_map]; omega, ?_⟩
    rw [List.length_map, show ((p.length : Nat) : Int).toNat = p.length from rfl]
    refine for_range (lo := 0) (n := p.length) (fun i σ H' => ∃ v2 : Option V, σ = [some (.ref a), some (.int (lawDes p i : Nat)), v2, none] ∧ Same H H') ⟨none, rfl, Same.refl _⟩ (fun i σ H1 hi hP => ?_) (fun σ H1 hP => ?_)
    · obtain ⟨v2, rfl, s1⟩ := hP
      have ei : (0 : Int) + (i : Int) = (i : Int) := Int.zero_add _
      rw [ei]
      have lb : ∀ k, lawDes p k ≤ 20 * k := fun k => by
        induction k with
        | zero => exact Nat.zero_le _
        | succ k ih =>
          rw [lawDes_succ]
          have := List.length_filter_le (fun l => decide (co p k < l)) (p.take k)
          rw [List.length_take] at this
          omega
      refine ⟨_, rfl, _, rfl, _, rfl, _, rfl, a, _, rfl, sqT_same s1 ha, ?_, fun u nu => ?_⟩
      · rintro ⟨_, z⟩
        rw [List.length_map] at z
        have z : HT.sIx p.length p.length (some ((i : Nat) : Int)) = p.length := z
        rw [HT.sIx_nat] at z
        omega
      have eC : cutV (p.map V.int) none (some ((i : Nat) : Int)) = (p.take i).map V.int := cutN_to (l := p) (b := i) (by omega)
      have w2 := same_upd (o := .tup (cutV (p.map V.int) none (some ((i : Nat) : Int)))) nu
      have hu : upd H1 u (.tup (cutV (p.map V.int) none (some ((i : Nat) : Int)))) u = some (.tup ((p.take i).map V.int)) := by rw [upd_same, eC]
      have s2 := Same.trans s1 w2
      generalize upd H1 u (.tup (cutV (p.map V.int) none (some ((i : Nat) : Int)))) = H2 at *
      refine ⟨u, rfl, ⟨_, .inl (.inl hu)⟩, fun D nD => ?_⟩
      have uD : u ≠ D := ne_of_none hu nD
      have kD : ∀ {H' : Hp}, SameBut D H2 H' → Same H2 H' := fun sb b o e => sb b o (ne_of_none e nD) e
      refine lc_it walk_tup (fun j H' => SameBut D H2 H' ∧ H' D = some (.lst (((((p.take i).take j).filter fun l => decide (co p i < l))).map V.int))) ⟨SameBut.upd, upd_same⟩ (fun j H' _ hP => .inl (.inl (hP.1 _ _ uD hu))) (fun j y H5 H6 hj hP hy => ?_) (fun H5 hP => ?_)
      · obtain ⟨sb3, hD3⟩ := hP
        obtain ⟨rfl, ey⟩ := hy
        rw [List.length_map] at hj
        have ey2 : ((p.take i).map V.int)[j]? = some (.int (co (p.take i) j)) := by rw [List.getElem?_map, co_get hj]; rfl
        obtain rfl : V.int (co (p.take i) j) = y := Option.some.inj (ey2.symm.trans ey)
        refine ⟨rfl, ?_⟩
        refine ⟨_, rfl, _, rfl, _, rfl, a, _, _, _, rfl, rfl, sqT_same (Same.trans s2 (kD sb3)) ha, at_co hi, _, _, rfl, rfl, _, rfl, ?_⟩
        have fl : (((p.take i).take (j + 1)).filter fun l => decide (co p i < l)) = (((p.take i).take j).filter fun l => decide (co p i < l)) ++ (if co p i < co (p.take i) j then [co (p.take i) j] else []) := by
          rw [take_snoc hj, List.filter_append, List.filter_cons]
          by_cases c : co p i < co (p.take i) j
          · rw [if_pos c, decide_eq_true c]; rfl
          · rw [if_neg c, decide_eq_false c]; rfl
        have fb : ((((p.take i).take j).filter fun l => decide (co p i < l))).length ≤ 20 := by
          refine Nat.le_trans (List.length_filter_le _ _) ?_
          rw [List.length_take, List.length_take]
          omega
        by_cases c : co p i < co (p.take i) j
        · refine if_pos_of (decide_eq_true c) ⟨_, rfl, _, hD3, by rw [List.length_map]; omega, sb3.trans SameBut.upd, ?_⟩
          rw [upd_same, fl, if_pos c, List.map_append]
          rfl
        · refine if_neg_of (fun z => c (of_decide_eq_true z)) ⟨sb3, ?_⟩
          rw [fl, if_neg c, List.append_nil]
          exact hD3
      · obtain ⟨sb3, hD3⟩ := hP
        rw [List.length_map, List.take_length] at hD3
        refine ⟨D, _, rfl, .inl (.inl (.inl hD3)), _, _, rfl, rfl, ?_⟩
        refine ⟨some (.int (i : Nat)), ?_, Same.trans s2 (kD sb3)⟩
        rw [lawDes_succ, List.length_map]
        rfl
    · obtain ⟨v2, rfl, s1⟩ := hP
      exact ⟨_, rfl, q _ s1⟩
theorem lawF_ok {p : List Int} : ∀ {k : Nat} {f : List Int}, f ∈ lawF p k → (∀ x ∈ f, 0 ≤ x ∧ x < (k : Int)) ∧ f.length ≤ k
  | 0, f, h => by
    rw [List.mem_singleton.mp h]
    exact ⟨fun x hx => (nomatch hx), Nat.le_refl _⟩
  | k + 1, f, h => by
    rcases List.mem_append.mp (show f ∈ lawF p k ++ _ from h) with h | h
    · obtain ⟨a, b⟩ := lawF_ok h
      exact ⟨fun x hx => by have := a x hx; omega, by omega⟩
    · obtain ⟨g, hg, rfl⟩ := List.mem_map.mp h
      obtain ⟨a, b⟩ := lawF_ok (List.mem_filter.mp hg).1
      refine ⟨fun x hx => ?_, by rw [List.length_append]; show _ + 1 ≤ _; omega⟩
      rcases List.mem_append.mp hx with hx | hx
      · have := a x hx; omega
      · rw [List.mem_singleton.mp hx]; omega
theorem lawF_le {p : List Int} (k : Nat) : ∀ j, (lawF p k).length ≤ (lawF p (k + j)).length
  | 0 => Nat.le_refl _
  | j + 1 => by
    refine Nat.le_trans (lawF_le k j) ?_
    show _ ≤ (lawF p (k + j) ++ _).length
    rw [List.length_append]
    omega
def spLFalls (K : PySem.W.Frag) : Sp := fun vs H Q _ => ∃ (a : Addr) (p : List Int), vs = [.ref a] ∧ SqT K H a (p.map V.int) ∧ p.length ≤ 5 ∧ (lawF p p.length).length ≤ 1000 ∧ ∀ L us H', Same H H' → H' L = some (.lst us) → Paired (LP H') us (lawF p p.length) → Q (.ref L) H'
theorem ok_law_falls {f : Addr} {fd : FuncData} (F : Fun K "_law_falls" "_law_falls" s_law_falls f fd) (z_len : mg "len" = none) (z_range : mg "range" = none) :
    FnOk P w K mg base CX0 1 f fd ["places"] (spLFalls K) := by
  refine F.ok sc_law_falls (fun vs H Q E h => ?_) (fun cdv A outer s H vs Q E hr h => ?_)
  · obtain ⟨a, p, rfl, _⟩ := h
    rfl
  · obtain ⟨a, p, rfl, ha, hp, hl, q⟩ := h
    refine ⟨_, (pss_cons (ps_set (i := 1) sc_law_falls.nd rfl (.inl rfl) (pe_lst (pa_cons (pe_lst pa_nil) pa_nil)))
  (pss_cons (ps_for PassesOwn.never rfl (pi_range1 rfl z_range (pa_cons (pe_callB call_len_seq (by rfl) z_len boot_len (pa_cons (pv 0) pa_nil)) pa_nil)) (pg_name (i := 2) sc_law_falls.nd rfl (.inr rfl)) (pss_one (ps_set (i := 1) sc_law_falls.nd rfl (.inl rfl) (pe_op op_cat (pv 1) (pe_lc (own := [("fall", 3)]) rfl sc_law_falls.nd (pi_list (pv 1)) (blkOk_by (N := ["places", "found", "at", "fall"]) (sc := defScope s_law_falls) (by first | decide +kernel | rfl)) (fun _ _ _ _ _ => (pg_name (i := 3) sc_law_falls.nd rfl (.inl rfl))) (fun _ _ _ _ _ => pts_one (by exact L2.PW.pt (pw_or (pt_not (pt_truthK (K := K) rfl (pv 3) (by intro _; rfl))) (pw_or1 (pt_cmpR op_gt (pe_ix (ix_tupK (K := K) rfl) (pv 0) (pe_ix (ix_listK (K := K) rfl) (pv 3) (pe_un un_neg pe_int) (fun _ _ => rfl)) (fun _ _ => rfl)) (pe_ix (ix_tupK (K := K) rfl) (pv 0) (pv 2) (fun _ _ => rfl)) (nomark _)))))) (fun _ _ _ _ _ => (pe_op op_cat (pv 3) (pe_lst (pa_cons (pv 2) pa_nil)))))))))
  (pss_one (ps_ret (pv 1))))), ?_⟩
    have szl : 20000 ≤ sizeLine := by decide
    refine ⟨(by show 0 ≤ sizeLine; omega), fun e1 n1 => ⟨(by show 1 ≤ sizeLine; omega), fun R0 nR0 => ?_⟩⟩
    have w1 := same_upd (o := .lst []) n1
    have w2 := same_upd (o := .lst [V.ref e1]) nR0
    have h1 : upd (upd H e1 (.lst [])) R0 (.lst [.ref e1]) e1 = some (.lst []) := w2 _ _ upd_same
    have hR1 : upd (upd H e1 (.lst [])) R0 (.lst [.ref e1]) R0 = some (.lst [.ref e1]) := upd_same
    have s1 := Same.trans w1 w2
    generalize upd (upd H e1 (.lst [])) R0 (.lst [.ref e1]) = H1 at *
    refine ⟨_, rfl, a, _, rfl, .inr (sqT_same s1 ha), _, rfl, by omega, by rw [List.length_map]; omega, ?_⟩
    rw [List.length_map, show ((p.length : Nat) : Int).toNat = p.length from rfl]
    refine for_range (lo := 0) (n := p.length) (fun k σ H' => ∃ (R : Addr) (us : List V) (v2 : Option V), σ = [some (.ref a), some (.ref R), v2, none] ∧ Same H H' ∧ H' R = some (.lst us) ∧ Paired (LP H') us (lawF p k)) ⟨R0, _, none, rfl, s1, hR1, .cons ⟨e1, rfl, h1⟩ .nil⟩ (fun k σ H2 hk hP => ?_) (fun σ H2 hP => ?_)
    · obtain ⟨R, us, v2, rfl, s2, hR, pu⟩ := hP
      have ek : (0 : Int) + (k : Int) = (k : Int) := Int.zero_add _
      rw [ek]
      have ll : (lawF p k).length ≤ 1000 := Nat.le_trans (by have := lawF_le (p := p) k (p.length - k); rwa [show k + (p.length - k) = p.length by omega] at this) hl
      have ll1 : (lawF p (k + 1)).length ≤ 1000 := Nat.le_trans (by have := lawF_le (p := p) (k + 1) (p.length - (k + 1)); rwa [show k + 1 + (p.length - (k + 1)) = p.length by omega] at this) hl
      have lu := pu.length
      refine ⟨_, rfl, _, rfl, R, rfl, ⟨_, .inl (.inl hR)⟩, fun D nD => ?_⟩
      have RD : R ≠ D := ne_of_none hR nD
      have kD : ∀ {H' : Hp}, SameBut D H2 H' → Same H2 H' := fun sb b o e => sb b o (ne_of_none e nD) e
      refine lc_list (xs := us) (fun i H' => SameBut D H2 H' ∧ ∃ qs, H' D = some (.lst qs) ∧ Paired (RowD D H') qs ((((lawF p k).take i).filter fun f => decide (f = []) || decide (co p k < co p (lastI f).toNat)).map fun f => f ++ [(k : Int)])) ⟨SameBut.upd, [], upd_same, .nil⟩ (fun i H' _ hP => .inl (.inl (hP.1 _ _ RD hR))) (fun i x H4 hx hP => ?_) (fun H4 hP => ?_)
      · obtain ⟨sb, qs, hD, pq⟩ := hP
        obtain ⟨f, ef, ax, rfl, hax⟩ := paired_get pu hx
        have aD : ax ≠ D := ne_of_none hax nD
        have mf := List.mem_of_getElem? ef
        obtain ⟨okf, lf⟩ := lawF_ok mf
        have ha4 := sb _ _ aD hax
        have hp4 := sqT_same (Same.trans s2 (kD sb)) ha
        have et : (((lawF p k).take (i + 1)).filter fun f => decide (f = []) || decide (co p k < co p (lastI f).toNat)).map (fun f => f ++ [(k : Int)]) = (((lawF p k).take i).filter fun f => decide (f = []) || decide (co p k < co p (lastI f).toNat)).map (fun f => f ++ [(k : Int)]) ++ (if (decide (f = []) || decide (co p k < co p (lastI f).toNat)) = true then [f ++ [(k : Int)]] else []) := by
          rw [List.take_succ, ef, List.filter_append, List.map_append]
          show _ ++ List.map _ (List.filter _ [f]) = _
          rw [List.filter_cons]
          by_cases c : (decide (f = []) || decide (co p k < co p (lastI f).toNat)) = true
          · rw [if_pos c, if_pos c]; rfl
          · rw [if_neg c, if_neg c]; rfl
        have lq : qs.length ≤ 1000 := by
          rw [pq.length, List.length_map]
          refine Nat.le_trans (List.length_filter_le _ _) ?_
          rw [List.length_take]
          omega
        have fin : (decide (f = []) || decide (co p k < co p (lastI f).toNat)) = true → ∀ H5, Same H4 H5 → ∀ q2, H5 q2 = some (.lst ((f ++ [(k : Int)]).map V.int)) → q2 ≠ D → ∃ acc, H5 D = some (.lst acc) ∧ acc.length < sizeLine ∧ SameBut D H2 (upd H5 D (.lst (acc ++ [V.ref q2]))) ∧ ∃ qs, upd H5 D (.lst (acc ++ [V.ref q2])) D = some (.lst qs) ∧ Paired (RowD D (upd H5 D (.lst (acc ++ [V.ref q2])))) qs ((((lawF p k).take (i + 1)).filter fun f => decide (f = []) || decide (co p k < co p (lastI f).toNat)).map fun f => f ++ [(k : Int)]) := fun c H5 x5 q2 hq2 q2D => by
          have hD5 := x5 _ _ hD
          refine ⟨qs, hD5, by omega, sb.trans fun b o nb e => SameBut.upd b o nb (x5 b o e), _, upd_same, ?_⟩
          rw [et, if_pos c]
          exact paired_add ⟨q2, rfl, q2D, SameBut.upd _ _ q2D hq2⟩ (Paired.mapP pq fun _ _ h => rowD_keep (fun b o nb e => SameBut.upd b o nb (x5 b o e)) h)
        have elem : (decide (f = []) || decide (co p k < co p (lastI f).toNat)) = true → True := fun _ => trivial
        by_cases c1 : f = []
        · have c : (decide (f = []) || decide (co p k < co p (lastI f).toNat)) = true := by rw [decide_eq_true c1]; rfl
          refine ⟨rfl, _, rfl, false, .inl ⟨_, .inl (.inl ha4), by rw [c1]; rfl⟩, ?_⟩
          refine iteT (iteT ?_)
          refine ⟨_, rfl, _, rfl, (by show 1 ≤ sizeLine; omega), fun q1 nq1 => ?_⟩
          have x1 := same_upd (o := .lst [V.int (k : Int)]) nq1
          refine ⟨_, _, _, _, rfl, rfl, x1 _ _ ha4, upd_same, by rw [List.length_map]; show _ + 1 ≤ _; omega, fun q2 nq2 => ?_⟩
          have x2 := Same.trans x1 (same_upd (o := .lst (f.map V.int ++ [.int (k : Int)])) nq2)
          have hq2 : upd (upd H4 q1 (.lst [V.int (k : Int)])) q2 (.lst (f.map V.int ++ [.int (k : Int)])) q2 = some (.lst ((f ++ [(k : Int)]).map V.int)) := by rw [upd_same, List.map_append]; rfl
          have q2D : q2 ≠ D := fun e => by
            rw [e] at nq2
            exact nomatch nq2.symm.trans (x1 _ _ hD)
          exact fin c _ x2 q2 hq2 q2D
        · have lf0 : 0 < f.length := List.length_pos_iff.mpr c1
          have ml : lastI f ∈ f := co_mem (by omega)
          obtain ⟨l0, l1⟩ := okf _ ml
          have e1 : atI (p.map V.int) (lastI f) = some (.int (co p (lastI f).toNat)) := by
            have := at_co (l := p) (k := (lastI f).toNat) (by omega)
            rwa [show (((lastI f).toNat : Nat) : Int) = lastI f by omega] at this
          have eE : (f.map V.int).isEmpty = false := by
            cases f with
            | nil => exact absurd rfl c1
            | cons _ _ => rfl
          refine ⟨rfl, _, rfl, true, .inl ⟨_, .inl (.inl ha4), by rw [eE]; rfl⟩, ?_⟩
          refine iteF ⟨_, rfl, _, rfl, 1, rfl, _, _, -1, _, rfl, rfl, .inl (.inl ha4), at_end c1, a, _, _, _, rfl, rfl, hp4, e1, _, rfl, _, rfl, a, _, _, _, rfl, rfl, hp4, at_co hk, _, _, rfl, rfl, _, rfl, ?_⟩
          by_cases c2 : co p k < co p (lastI f).toNat
          · have c : (decide (f = []) || decide (co p k < co p (lastI f).toNat)) = true := by rw [decide_eq_true c2, Bool.or_true]
            refine if_pos_of (decide_eq_true c2) ?_
            refine ⟨_, rfl, _, rfl, (by show 1 ≤ sizeLine; omega), fun q1 nq1 => ?_⟩
            have x1 := same_upd (o := .lst [V.int (k : Int)]) nq1
            refine ⟨_, _, _, _, rfl, rfl, x1 _ _ ha4, upd_same, by rw [List.length_map]; show _ + 1 ≤ _; omega, fun q2 nq2 => ?_⟩
            have x2 := Same.trans x1 (same_upd (o := .lst (f.map V.int ++ [.int (k : Int)])) nq2)
            have hq2 : upd (upd H4 q1 (.lst [V.int (k : Int)])) q2 (.lst (f.map V.int ++ [.int (k : Int)])) q2 = some (.lst ((f ++ [(k : Int)]).map V.int)) := by rw [upd_same, List.map_append]; rfl
            have q2D : q2 ≠ D := fun e => by
              rw [e] at nq2
              exact nomatch nq2.symm.trans (x1 _ _ hD)
            exact fin c _ x2 q2 hq2 q2D
          · have c : ¬ (decide (f = []) || decide (co p k < co p (lastI f).toNat)) = true := by rw [decide_eq_false c1, decide_eq_false c2]; exact Bool.false_ne_true
            refine if_neg_of (fun z => c2 (of_decide_eq_true z)) ⟨sb, qs, hD, ?_⟩
            rw [et, if_neg c, List.append_nil]
            exact pq
      · obtain ⟨sb, qs, hD, pq⟩ := hP
        rw [lu, List.take_length] at pq
        refine ⟨_, _, _, _, rfl, rfl, kD sb _ _ hR, hD, ?_, fun M nM => ?_⟩
        · have : (lawF p (k + 1)).length = us.length + qs.length := by
            show (lawF p k ++ _).length = _
            rw [List.length_append, lu, pq.length]
          omega
        · have y1 := Same.trans (kD sb) (same_upd (o := .lst (us ++ qs)) nM)
          refine ⟨M, _, _, rfl, Same.trans s2 y1, upd_same, paired_app (Paired.mapP pu fun _ _ h => h.same y1) (Paired.mapP pq fun _ _ h => ?_)⟩
          obtain ⟨b, e, _, hb⟩ := h
          exact ⟨b, e, same_upd nM _ _ hb⟩
    · obtain ⟨R, us, v2, rfl, s2, hR, pu⟩ := hP
      exact ⟨_, rfl, q R us H2 s2 hR pu⟩
theorem maxL_spec : ∀ {l : List (List Int)} {m : Int}, m ∈ l.map (fun f => ((f.length : Nat) : Int)) → (∀ y ∈ l.map (fun f => ((f.length : Nat) : Int)), y ≤ m) → m = (maxL l : Nat)
  | f :: r, m, h, k => by
    have k0 : ((f.length : Nat) : Int) ≤ m := k _ List.mem_cons_self
    by_cases e : r = []
    · subst e
      rcases List.mem_cons.mp h with h | h
      · have h : m = ((f.length : Nat) : Int) := h
        rw [h]; show _ = ((max f.length 0 : Nat) : Int); omega
      · exact nomatch h
    · obtain ⟨x, xs, rfl⟩ : ∃ x xs, r = x :: xs := by
        cases r with
        | nil => exact absurd rfl e
        | cons x xs => exact ⟨x, xs, rfl⟩
      by_cases c : ∃ g ∈ x :: xs, m = ((g.length : Nat) : Int)
      · obtain ⟨g, hg, e⟩ := c
        have := maxL_spec (l := x :: xs) (m := m) (List.mem_map.mpr ⟨g, hg, e.symm⟩) fun y hy => k y (List.mem_cons_of_mem _ hy)
        show m = ((max f.length (maxL (x :: xs)) : Nat) : Int)
        omega
      · rcases List.mem_cons.mp h with h | h
        · have le : ∀ {l : List (List Int)} {M : Nat}, (∀ g ∈ l, g.length ≤ M) → maxL l ≤ M := by
            intro l M
            induction l with
            | nil => intro _; exact Nat.zero_le _
            | cons g l ih =>
              intro h
              have h1 := h g List.mem_cons_self
              have h2 := ih fun g hg => h g (List.mem_cons_of_mem _ hg)
              show max _ _ ≤ _
              omega
          have := le (l := x :: xs) (M := f.length) fun g hg => by
            have : ((g.length : Nat) : Int) ≤ m := k _ (List.mem_cons_of_mem _ (List.mem_map.mpr ⟨g, hg, rfl⟩))
            have h : m = ((f.length : Nat) : Int) := h
            omega
          have h : m = ((f.length : Nat) : Int) := h
          show m = ((max f.length (maxL (x :: xs)) : Nat) : Int)
          omega
        · obtain ⟨g, hg, e⟩ := List.mem_map.mp h
          exact absurd ⟨g, hg, e.symm⟩ c
theorem lawF_ne (p : List Int) : ∀ k, lawF p k ≠ []
  | 0 => List.cons_ne_nil _ _
  | k + 1 => fun h => lawF_ne p k (List.append_eq_nil_iff.mp (show lawF p k ++ _ = [] from h)).1
def spLDepth (K : PySem.W.Frag) : Sp := fun vs H Q _ => ∃ (a : Addr) (p : List Int), vs = [.ref a] ∧ SqT K H a (p.map V.int) ∧ p.length ≤ 5 ∧ (lawF p p.length).length ≤ 1000 ∧ ∀ H', Same H H' → Q (.int (lawD p : Nat)) H'
theorem ok_law_depth {f : Addr} {fd : FuncData} (F : Fun K "_law_depth" "_law_depth" s_law_depth f fd) (z_len : mg "len" = none) (z_max : mg "max" = none) {a_law_falls : Addr} {fd_law_falls : FuncData} (G_law_falls : FnOk P w K mg base CX0 1 a_law_falls fd_law_falls ["places"] (spLFalls K)) (g_law_falls : mg "_law_falls" = some (.ref a_law_falls)) (k_law_falls : PySem.W.keepIn K (.ref a_law_falls) = true) (b_law_falls : Binds K fd_law_falls ["places"] []) :
    FnOk P w K mg base CX0 2 f fd ["places"] (spLDepth K) := by
  refine F.ok sc_law_depth (fun vs H Q E h => ?_) (fun cdv A outer s H vs Q E hr h => ?_)
  · obtain ⟨a, p, rfl, _⟩ := h
    rfl
  · obtain ⟨a, p, rfl, ha, hp, hl, q⟩ := h
    refine ⟨_, (pss_one (ps_ret (pe_callB (cr_max rfl) (by rfl) z_max boot_max (pa_cons (pe_lc (own := [("fall", 1)]) rfl sc_law_depth.nd (pi_list (pe_call G_law_falls (hr.mono (by decide)) rfl g_law_falls k_law_falls b_law_falls .nil pass0 (pa_cons (pv 0) pa_nil))) (blkOk_by (N := ["places", "fall"]) (sc := defScope s_law_depth) (by first | decide +kernel | rfl)) (fun _ _ _ _ _ => (pg_name (i := 1) sc_law_depth.nd rfl (.inl rfl))) (fun _ _ _ _ _ => pts_nil) (fun _ _ _ _ _ => (pe_callB (call_len_seqK (K := K) rfl) (by rfl) z_len boot_len (pa_cons (pv 1) pa_nil)))) pa_nil)))), ?_⟩
    have szl : 20000 ≤ sizeLine := by decide
    refine ⟨_, rfl, a, p, rfl, ha, hp, hl, fun L us H1 s1 hL pu => ?_⟩
    refine ⟨L, rfl, ⟨_, .inl (.inl hL)⟩, fun D nD => ?_⟩
    have LD : L ≠ D := ne_of_none hL nD
    have kD : ∀ {H' : Hp}, SameBut D H1 H' → Same H1 H' := fun sb b o e => sb b o (ne_of_none e nD) e
    refine lc_list (xs := us) (fun i H' => SameBut D H1 H' ∧ H' D = some (.lst ((((lawF p p.length).take i).map fun f => ((f.length : Nat) : Int)).map V.int))) ⟨SameBut.upd, upd_same⟩ (fun i H' _ hP => .inl (.inl (hP.1 _ _ LD hL))) (fun i x H4 hx hP => ?_) (fun H4 hP => ?_)
    · obtain ⟨sb, hD⟩ := hP
      obtain ⟨f, ef, ax, rfl, hax⟩ := paired_get pu hx
      refine ⟨rfl, _, rfl, ax, _, rfl, .inl (.inl (.inl (kD sb _ _ hax))), _, hD, by rw [List.length_map, List.length_map, List.length_take]; omega, sb.trans SameBut.upd, ?_⟩
      rw [upd_same, List.take_succ, ef, List.map_append, List.map_append, List.length_map]
      rfl
    · obtain ⟨sb, hD⟩ := hP
      rw [pu.length, List.take_length] at hD
      refine ⟨D, _, rfl, .inl (.inl hD), by rw [List.length_map]; exact List.length_pos_iff.mpr (lawF_ne p _), fun m hm hle => ?_⟩
      rw [maxL_spec hm hle]
      exact q _ (Same.trans s1 (kD sb))
end

/-! ### _law_marked, the marks in a tuple -/
theorem call_tuple_ofKM {X : Cx} {K : PySem.W.Frag} (hK : X.K = K) : CallR X (.type "tuple") (fun xs H Q => ∃ p ys, xs = [.ref p] ∧ ((SqL K H p ys ∧ ∀ l, H l = none → Q (.ref l) (upd H l (.tup ys))) ∨ (SqT K H p ys ∧ Q (.ref p) H))) := by
  subst hK
  exact call_tuple_of
theorem inV_intM {p : Int} : ∀ l : List Int, inV (.int p) (l.map V.int) = decide (p ∈ l)
  | [] => rfl
  | x :: l => by
    show (eqV (.int x) (.int p) || inV (.int p) (l.map V.int)) = _
    rw [inV_intM l]
    have e : eqV (.int x) (.int p) = decide (x = p) := by
      by_cases c : x = p <;> simp [eqV, c]
    rw [e]
    by_cases c : x = p
    · rw [decide_eq_true c, decide_eq_true (List.mem_cons.mpr (.inl c.symm))]
      rfl
    · rw [decide_eq_false c, Bool.false_or]
      refine decide_eq_decide.mpr ⟨fun z => List.mem_cons_of_mem _ z, fun z => (List.mem_cons.mp z).resolve_left fun z => c z.symm⟩
theorem flat_intM : ∀ l : List Int, (l.map V.int).all flatV = true
  | [] => rfl
  | _ :: l => by
    rw [List.map_cons, List.all_cons, flat_intM l]
    rfl
section
variable {P : Program} {w : World} {K : PySem.W.Frag} {mg : Str → Option Value} {base : Heap}
def spMarked (K : PySem.W.Frag) : Sp := fun vs H Q _ => ∃ (n m : Int) (a : Addr) (marks : List Int), vs = [.int n, .int m, .ref a] ∧ SqT K H a (marks.map V.int) ∧ marks.length ≤ 1000 ∧ (marks.length : Int) = n + m ∧
  ∀ v H', Same H H' → (∀ t, v = .ref t → H t = none) → DGv H' v n m (blocksOf marks) → Q v H'
theorem ok_law_marked {f : Addr} {fd : FuncData} (F : Fun K "_law_marked" "_law_marked" s_law_marked f fd) (z_tuple : mg "tuple" = none) (z_range : mg "range" = none) (z_len : mg "len" = none) :
    FnOk P w K mg base CX0 1 f fd ["n", "m", "marks"] (spMarked K) := by
  refine F.ok sc_law_marked (fun vs H Q E h => ?_) (fun cdv A outer s H vs Q E hr h => ?_)
  · obtain ⟨n, m, a, marks, rfl, _⟩ := h
    rfl
  · obtain ⟨n, m, a, marks, rfl, ha, hl, hN, q⟩ := h
    refine ⟨_, (pss_cons (ps_set (i := 3) sc_law_marked.nd rfl (.inl rfl) (pe_lst pa_nil))
  (pss_cons (ps_set (i := 4) sc_law_marked.nd rfl (.inl rfl) (pe_lst pa_nil))
  (pss_cons (ps_for PassesOwn.never rfl (pi_range1 rfl z_range (pa_cons (pe_callB call_len_seq (by rfl) z_len boot_len (pa_cons (pv 2) pa_nil)) pa_nil)) (pg_name (i := 5) sc_law_marked.nd rfl (.inl rfl)) (Evl.pss_cut (ps_if (pt_cmpR op_notIn_seq (pe_ix ix_tup (pv 2) (pv 5) (fun _ _ => rfl)) (pv 3) (by with_unfolding_all rfl)) (pss_cons (ps_expr (pe_bm PySem.F.plainAttrs_list PySem.F.slot_list_append PySem.F.type_list_append mt_append (pv 3) (pa_cons (pe_ix ix_tup (pv 2) (pv 5) (fun _ _ => rfl)) pa_nil)))
  (pss_one (ps_expr (pe_bm PySem.F.plainAttrs_list PySem.F.slot_list_append PySem.F.type_list_append mt_append (pv 4) (pa_cons (pe_lst pa_nil) pa_nil))))) pss_nil)
  (pss_one (ps_expr (pe_bm PySem.F.plainAttrs_list PySem.F.slot_list_append PySem.F.type_list_append mt_append (pe_ix ix_list (pv 4) (pe_bm PySem.F.plainAttrs_list PySem.F.slot_list_index PySem.F.type_list_index mt_index (pv 3) (pa_cons (pe_ix ix_tup (pv 2) (pv 5) (fun _ _ => rfl)) pa_nil)) (fun _ _ => rfl)) (pa_cons (pv 5) pa_nil))))))
  (pss_one (ps_ret (pe_tup (pa_cons (pv 0) (pa_cons (pv 1) (pa_cons (pe_callTy call_tuple_of (by rfl) z_tuple boot_tuple (pa_cons (pe_lc (own := [("block", 6)]) rfl sc_law_marked.nd (pi_list (pv 4)) (blkOk_by (N := ["n", "m", "marks", "known", "blocks", "at", "block"]) (sc := defScope s_law_marked) (by first | decide +kernel | rfl)) (fun _ _ _ _ _ => (pg_name (i := 6) sc_law_marked.nd rfl (.inl rfl))) (fun _ _ _ _ _ => pts_nil) (fun _ _ _ _ _ => (pe_callTy (call_tuple_ofKM (K := K) rfl) (by rfl) z_tuple boot_tuple (pa_cons (pv 6) pa_nil)))) pa_nil)) pa_nil))))))))), ?_⟩
    have szl : 20000 ≤ sizeLine := by decide
    refine ⟨(by show 0 ≤ sizeLine; decide), fun D nD => ⟨(by show 0 ≤ sizeLine; decide), fun B nB => ?_⟩⟩
    have s1 := same_upd (o := .lst []) nD
    have s2 := same_upd (o := .lst []) nB
    have h1D : upd H D (.lst []) D = some (.lst []) := upd_same
    have hD2 : upd (upd H D (.lst [])) B (.lst []) D = some (.lst []) := s2 _ _ h1D
    have tb0 : TabH (upd H D (.lst [])) (upd (upd H D (.lst [])) B (.lst [])) B [] := .new nB upd_same
    have DB : B ≠ D := fun z => by rw [z, h1D] at nB; exact nomatch nB
    have s12 : Same H (upd (upd H D (.lst [])) B (.lst [])) := Same.trans s1 s2
    have hS1 : ∀ b o, upd H D (.lst []) b = some o → b = D ∨ H b = some o := fun b o e => by
      by_cases c : b = D
      · exact .inl c
      · rw [upd_ne c] at e
        exact .inr e
    generalize upd H D (.lst []) = H1 at *
    generalize upd H1 B (.lst []) = H2 at *
    refine ⟨_, rfl, a, marks.map V.int, rfl, .inr (sqT_same s12 ha), _, rfl, by omega, by rw [List.length_map]; omega, ?_⟩
    rw [List.length_map, show ((marks.length : Nat) : Int).toNat = marks.length from rfl]
    refine for_range (lo := 0) (n := marks.length) (fun k σ H' => ∃ v5 : Option V, σ = [some (.int n), some (.int m), some (.ref a), some (.ref D), some (.ref B), v5, none] ∧ Same H H' ∧ H' D = some (.lst ((seenL [] (marks.take k)).map V.int)) ∧
      TabH H1 H' B ((seenL [] (marks.take k)).map fun v => (posOf (marks.take k) v).map V.int)) ⟨none, rfl, s12, hD2, tb0⟩ (fun k σ H3 hk hP => ?_) (fun σ H3 hP => ?_)
    · obtain ⟨v5, rfl, s3, hD, tb⟩ := hP
      have ha3 := sqT_same s3 ha
      have ek : (0 : Int) + (k : Int) = (k : Int) := Int.zero_add _
      rw [ek]
      have ls := seenL_len (marks.take k) []
      rw [List.length_take] at ls
      have ls2 : (seenL [] (marks.take k)).length ≤ 1000 := by
        have : ([] : List Int).length = 0 := rfl
        omega
      obtain ⟨_, us, hB, _, pU⟩ := id tb
      have lus : us.length ≤ 1000 := by rw [pU.length, List.length_map]; exact ls2
      refine ⟨fun σ H' => σ = [some (.int n), some (.int m), some (.ref a), some (.ref D), some (.ref B), some (.int (k : Int)), none] ∧ Same H H' ∧ H' D = some (.lst ((seenL [] (marks.take (k + 1))).map V.int)) ∧
        TabH H1 H' B ((seenL [] (marks.take (k + 1))).map fun v => (posOf (marks.take k) v).map V.int), ?_, ?_⟩
      · refine ⟨_, rfl, _, rfl, a, _, _, _, rfl, rfl, ha3, at_co hk, _, rfl, D, _, rfl, .inl (.inl (.inl hD)), rfl, flat_intM _, _, rfl, ?_⟩
        by_cases c : co marks k ∈ seenL [] (marks.take k)
        · refine if_neg_of (by show ¬ (!inV _ _) = true; rw [inV_intM, decide_eq_true c]; exact Bool.false_ne_true) ⟨rfl, s3, ?_⟩
          rw [take_snoc hk, seenL_snoc, if_pos c]
          exact ⟨hD, tb⟩
        · refine if_pos_of (by show (!inV _ _) = true; rw [inV_intM, decide_eq_false c]; rfl) ?_
          refine ⟨_, rfl, .inl ⟨rfl, _, .inl (.inl hD)⟩, _, rfl, _, rfl, a, _, _, _, rfl, rfl, ha3, at_co hk, D, _, _, rfl, rfl, hD, by rw [List.length_map]; omega, ?_⟩
          have sbD := SameBut.upd (H := H3) (a := D) (o := .lst ((seenL [] (marks.take k)).map V.int ++ [.int (co marks k)]))
          have tb4 := tb.but h1D sbD
          have hB4 := sbD _ _ DB hB
          have hD4 : upd H3 D (.lst ((seenL [] (marks.take k)).map V.int ++ [.int (co marks k)])) D = some (.lst ((seenL [] (marks.take (k + 1))).map V.int)) := by rw [upd_same, take_snoc hk, seenL_snoc, if_neg c, List.map_append]; rfl
          have s4 : Same H (upd H3 D (.lst ((seenL [] (marks.take k)).map V.int ++ [.int (co marks k)]))) := Same.mut s3 nD
          revert tb4 hB4 hD4 s4
          generalize upd H3 D (.lst ((seenL [] (marks.take k)).map V.int ++ [.int (co marks k)])) = H4
          intro tb4 hB4 hD4 s4
          refine ⟨_, rfl, .inl ⟨rfl, _, .inl (.inl hB4)⟩, (by show 0 ≤ sizeLine; decide), fun q1 nq1 => ?_⟩
          have w1 := same_upd (o := .lst []) nq1
          refine ⟨B, _, _, rfl, rfl, w1 _ _ hB4, by omega, rfl, Same.mut (Same.trans s4 w1) (none_back s1 nB), ?_, ?_⟩
          · rw [upd_ne (Ne.symm DB)]
            exact w1 _ _ hD4
          · have n1 : H1 q1 = none := by
              cases e : H1 q1 with
              | none => rfl
              | some o =>
                rcases hS1 _ _ e with z | z
                · rw [z, hD4] at nq1
                  exact nomatch nq1
                · rw [s4 _ _ z] at nq1
                  exact nomatch nq1
            have := tb4.push hB4 nq1 n1 (r := [])
            rw [take_snoc hk, seenL_snoc, if_neg c, List.map_append]
            show TabH H1 _ B (_ ++ [(posOf (marks.take k) (co marks k)).map V.int])
            rw [posOf_none (fun z => c ((seenL_mem _ [] _).mpr (.inr z)))]
            exact this
      clear tb
      rintro σ H4 ⟨rfl, s4, hD4, tb4⟩
      obtain ⟨_, us, hB, _, pU⟩ := id tb4
      have hin : co marks k ∈ seenL [] (marks.take (k + 1)) := (seenL_mem _ [] _).mpr (.inr (by rw [take_snoc hk]; exact List.mem_append_right _ (List.mem_singleton.mpr rfl)))
      have hj := List.idxOf_lt_length_of_mem hin
      have ej := List.getElem_idxOf hj
      have ndS := seenL_nodup (marks.take (k + 1)) [] List.nodup_nil
      obtain ⟨y, ey⟩ : ∃ y, us[(seenL [] (marks.take (k + 1))).idxOf (co marks k)]? = some y := ⟨_, List.getElem?_eq_getElem (by rw [pU.length, List.length_map]; exact hj)⟩
      obtain ⟨r, er, x, rfl, xB, nx, hx⟩ := paired_get pU ey
      rw [List.getElem?_map, List.getElem?_eq_getElem hj, ej] at er
      have er := Option.some.inj er
      dsimp only at er
      subst er
      have lp : (posOf (marks.take k) (co marks k)).length ≤ 1000 := by
        unfold posOf
        rw [List.length_map]
        refine Nat.le_trans (List.length_filter_le _ _) ?_
        rw [List.length_range, List.length_take]
        omega
      refine ⟨_, rfl, _, rfl, .inl ⟨rfl, _, .inl (.inl hD4)⟩, _, rfl, _, rfl, a, _, _, _, rfl, rfl, sqT_same s4 ha, at_co hk, D, _, .int (co marks k), (seenL [] (marks.take (k + 1))).idxOf (co marks k), .int (co marks k), rfl, rfl, .inl (.inl hD4), rfl, flat_intM _, ?_, ?_, fun i z hi hz => ?_, ?_⟩
      · rw [List.getElem?_map, List.getElem?_eq_getElem hj, ej]
        rfl
      · simp [eqV]
      · rw [List.getElem?_map] at hz
        obtain ⟨b, hb, rfl⟩ := Option.map_eq_some_iff.mp hz
        have : b ≠ co marks k := fun e => by
          subst e
          obtain ⟨hi', e2⟩ := List.getElem?_eq_some_iff.mp hb
          have := List.pairwise_iff_getElem.mp ndS i _ hi' hj hi
          rw [e2, ej] at this
          exact this rfl
        simp [eqV, this]
      · refine ⟨B, us, _, .ref x, rfl, rfl, .inl (.inl hB), atI_nat (j := (seenL [] (marks.take (k + 1))).idxOf (co marks k)) ey, ?_⟩
        refine ⟨.inl ⟨rfl, _, .inl (.inl hx)⟩, _, rfl, x, _, _, rfl, rfl, hx, by rw [List.length_map]; omega, ?_⟩
        have nxD : x ≠ D := fun z => by rw [z, h1D] at nx; exact nomatch nx
        have nxH : H x = none := none_back s1 nx
        refine ⟨_, rfl, Same.mut s4 nxH, by rw [upd_ne (Ne.symm nxD)]; exact hD4, ?_⟩
        have := tb4.set hB ey ((posOf (marks.take k) (co marks k)).map V.int ++ [V.int (k : Int)])
        have e : ((seenL [] (marks.take (k + 1))).map fun v => (posOf (marks.take k) v).map V.int).set ((seenL [] (marks.take (k + 1))).idxOf (co marks k)) ((posOf (marks.take k) (co marks k)).map V.int ++ [V.int (k : Int)]) = (seenL [] (marks.take (k + 1))).map fun v => (posOf (marks.take (k + 1)) v).map V.int := by
          refine List.ext_getElem? fun i => ?_
          rw [List.getElem?_set, List.length_map, List.getElem?_map, List.getElem?_map]
          by_cases c : (seenL [] (marks.take (k + 1))).idxOf (co marks k) = i
          · subst c
            rw [if_pos rfl, if_pos hj, List.getElem?_eq_getElem hj, ej]
            show _ = some ((posOf (marks.take (k + 1)) (co marks k)).map V.int)
            rw [posOf_take hk, if_pos rfl, List.map_append]
            rfl
          · rw [if_neg c]
            cases e : (seenL [] (marks.take (k + 1)))[i]? with
            | none => rfl
            | some v =>
              have nv : co marks k ≠ v := fun z => c (by
                obtain ⟨hi, e2⟩ := List.getElem?_eq_some_iff.mp e
                rw [z, ← e2]
                exact List.Nodup.idxOf_getElem ndS i hi)
              show some ((posOf (marks.take k) v).map V.int) = some ((posOf (marks.take (k + 1)) v).map V.int)
              rw [posOf_take hk, if_neg nv]
        rw [e] at this
        exact this
    · obtain ⟨v5, rfl, s3, hD, tb⟩ := hP
      rw [List.take_length] at tb
      obtain ⟨_, us, hB, _, pU⟩ := id tb
      have lus : us.length ≤ 1000 := by
        rw [pU.length, List.length_map]
        have := seenL_len marks []
        have e : ([] : List Int).length = 0 := rfl
        omega
      refine ⟨_, rfl, _, rfl, _, rfl, B, rfl, ⟨_, .inl (.inl hB)⟩, fun L nL => ?_⟩
      have BL : B ≠ L := ne_of_none hB nL
      have kL : ∀ {H' : Hp}, SameBut L H3 H' → Same H3 H' := fun sb b o e => sb b o (ne_of_none e nL) e
      refine lc_list (xs := us) (fun i H' => SameBut L H3 H' ∧ ∃ ts, H' L = some (.lst ts) ∧ Paired (TP H') ts (((seenL [] marks).take i).map (posOf marks))) ⟨SameBut.upd, [], upd_same, .nil⟩ (fun i H' _ hP => .inl (.inl (hP.1 _ _ BL hB))) (fun i x H4 hx hP => ?_) (fun H4 hP => ?_)
      · obtain ⟨sb, ts, hL, pt⟩ := hP
        obtain ⟨r, er, y, rfl, _, _, hy⟩ := paired_get pU hx
        rw [List.getElem?_map] at er
        obtain ⟨v, ev, rfl⟩ := Option.map_eq_some_iff.mp er
        refine ⟨rfl, _, rfl, y, _, rfl, .inl ⟨.inl (.inl (kL sb _ _ hy)), fun t nt => ?_⟩⟩
        have w1 := same_upd (o := .tup ((posOf marks v).map V.int)) nt
        have hL5 := w1 _ _ hL
        have li := (List.getElem?_eq_some_iff.mp hx).1
        refine ⟨ts, hL5, by rw [pt.length, List.length_map, List.length_take]; omega, (sb.trans (Same.but w1)).trans SameBut.upd, _, upd_same, ?_⟩
        rw [List.take_succ, ev, List.map_append]
        exact Paired.mapP (paired_add ⟨t, rfl, upd_same⟩ (Paired.mapP pt fun _ _ h => h.same w1)) fun _ _ h => TP.butL hL5 SameBut.upd h
      · obtain ⟨sb, ts, hL, pt⟩ := hP
        have el : (seenL [] marks).length = us.length := by rw [pU.length, List.length_map]
        rw [← el, List.take_length] at pt
        refine ⟨L, _, rfl, .inl ⟨.inl (.inl hL), fun tb' ntb => ?_⟩⟩
        refine ⟨(by show 3 ≤ sizeLine; decide), fun t nt => ?_⟩
        have q3 := same_upd (o := .tup ts) ntb
        have q4 := same_upd (o := .tup [.int n, .int m, .ref tb']) nt
        have sf := Same.trans q3 q4
        have sA := Same.trans s3 (kL sb)
        exact q (.ref t) _ (Same.trans sA sf) (fun t' e => by cases e; exact none_back (Same.trans sA q3) nt) ⟨t, .ref tb', rfl, upd_same, tb', _, rfl, q4 _ _ upd_same, Paired.mapP pt fun _ _ h => h.same sf⟩
end

section
variable {P : Program} {w : World} {K : PySem.W.Frag} {mg : Str → Option Value} {base : Heap}
/-! ### _law_belongs -/
def spBelongs : Sp := fun vs H Q _ => ∃ (z : Str) (v : V) (n m : Int) (bs : List (List Int)), vs = [.str z, v] ∧ DGv H v n m bs ∧ z ∈ fams ∧ (∀ b ∈ bs, b ≠ []) ∧ Q (.bl (inFam z n bs)) H
theorem ok_law_belongs {f : Addr} {fd : FuncData} (F : Fun K "_law_belongs" "_law_belongs" s_law_belongs f fd) (z_len : mg "len" = none) (z_int : mg "int" = none) :
    FnOk P w K mg base CX0 1 f fd ["family", "diagram"] spBelongs := by
  refine F.ok sc_law_belongs (fun vs H Q E h => ?_) (fun cdv A outer s H vs Q E hr h => ?_)
  · obtain ⟨z, v, n, m, bs, rfl, _⟩ := h
    rfl
  · obtain ⟨z, v, n, m, bs, rfl, hv, mz, nb, q⟩ := h
    refine ⟨_, (pss_cons (ps_asg (pv 1) (pg_tup rfl (pgs_cons (pg_name (i := 2) sc_law_belongs.nd rfl (.inl rfl)) (pgs_cons (pg_name (i := 3) sc_law_belongs.nd rfl (.inl rfl)) (pgs_cons (pg_name (i := 4) sc_law_belongs.nd rfl (.inl rfl)) pgs_nil)))))
  (pss_cons (ps_for PassesOwn.never rfl (pi_tup (pv 4)) (pg_name (i := 5) sc_law_belongs.nd rfl (.inl rfl)) (Evl.pss_cut (ps_set (i := 6) sc_law_belongs.nd rfl (.inl rfl) (pe_and (pe_cmpR op_eq (pe_callB call_len_seq (by rfl) z_len boot_len (pa_cons (pv 5) pa_nil)) pe_int (nomark _)) (pe_one (pe_chain op_lt op_le (pe_ix ix_tup (pv 5) pe_int (fun _ _ => rfl)) (pv 2) (pe_ix ix_tup (pv 5) pe_int (fun _ _ => rfl))))))
  (Evl.pss_cut (ps_if (L2.PW.pt (pw_or (L2.PW.pt (pw_and (pt_cmpR op_eq (pv 0) pe_str (nomark _)) (pw_and1 (pt_not (pt_truth (pv 6) (by intro _; rfl)))))) (pw_or1 (L2.PW.pt (pw_and (pt_cmpR op_eq (pv 0) pe_str (nomark _)) (pw_and (pt_not (pt_truth (pv 6) (by intro _; rfl))) (pw_and1 (pt_cmpR op_gt (pe_callB call_len_seq (by rfl) z_len boot_len (pa_cons (pv 5) pa_nil)) pe_int (nomark _))))))))) (pss_one (ps_ret pe_bl)) pss_nil)
  (Evl.pss_cut (ps_if (L2.PW.pt (pw_or (L2.PW.pt (pw_and (pt_cmpR op_eq (pv 0) pe_str (nomark _)) (pw_and1 (pt_cmpR op_ne (pe_callB call_len_seq (by rfl) z_len boot_len (pa_cons (pv 5) pa_nil)) pe_int (nomark _))))) (pw_or1 (L2.PW.pt (pw_and (pt_cmpR op_eq (pv 0) pe_str (nomark _)) (pw_and1 (pt_cmpR op_gt (pe_callB call_len_seq (by rfl) z_len boot_len (pa_cons (pv 5) pa_nil)) pe_int (nomark _)))))))) (pss_one (ps_ret pe_bl)) pss_nil)
  (pss_one (ps_if (L2.PW.pt (pw_and (pt_cmpR op_eq (pv 0) pe_str (nomark _)) (pw_and1 (pt_cmpR op_eq (pe_op op_mod (pe_callTy call_int1 (by rfl) z_int boot_int (pa_cons (pe_callB call_len_seq (by rfl) z_len boot_len (pa_cons (pv 5) pa_nil)) pa_nil)) pe_int) pe_int (nomark _))))) (pss_one (ps_ret pe_bl)) pss_nil))))))
  (pss_one (ps_ret pe_bl)))), ?_⟩
    obtain ⟨t, vb, rfl, ht, tb, ts, rfl, htb, pr⟩ := id hv
    refine ⟨_, rfl, t, _, rfl, .inl (.inl ht), rfl, _, _, rfl, _, _, rfl, _, _, rfl, rfl, ?_⟩
    refine ⟨_, rfl, tb, rfl, ⟨_, .inl (.inl htb)⟩, for_it walk_tup (fun i σ H' => ∃ v5 v6 : Option V, σ = [some (.str z), some (.ref t), some (.int n), some (.int m), some (.ref tb), v5, v6] ∧ H' = H ∧ (bs.take i).all (blockOk z n) = true) ⟨none, none, rfl, rfl, rfl⟩ (fun i σ H' _ ⟨_, _, _, e, _⟩ => by rw [e]; exact .inl (.inl htb)) (fun i x σ H1 H2 hi hP hy => ?_) (fun σ H1 hP => ?_)⟩
    · obtain ⟨v5, v6, rfl, rfl, al⟩ := hP
      obtain ⟨rfl, ey⟩ := hy
      obtain ⟨b, eb, u, rfl, hu⟩ := tt_get pr ey
      have et : (bs.take (i + 1)).all (blockOk z n) = blockOk z n b := by
        rw [List.take_succ, eb, List.all_append, al, Bool.true_and]
        exact Bool.and_true _
      have mb := List.mem_of_getElem? eb
      have bad : blockOk z n b = false → inFam z n bs = false := fun h => by
        cases e : inFam z n bs with
        | false => rfl
        | true => exact nomatch h.symm.trans (List.all_eq_true.mp e b mb)
      refine ⟨fun σ H' => σ = [some (.str z), some (.ref t), some (.int n), some (.int m), some (.ref tb), some (.ref u), some (.bl (strandB n b))] ∧ H' = H2, ?_, ?_⟩
      · refine ⟨_, rfl, u, _, rfl, .inr (.inl (.inl hu)), rfl, _, rfl, ?_⟩
        rw [List.length_map]
        by_cases l2 : b.length = 2
        · refine if_pos_of (decide_eq_true (by rw [l2]; rfl)) ?_
          obtain ⟨x, y, rfl⟩ : ∃ x y, b = [x, y] := by
            match b, l2 with
            | [x, y], _ => exact ⟨x, y, rfl⟩
          have es : strandB n [x, y] = (decide (x < n) && decide (n ≤ y)) := by
            show (true && decide (x < n ∧ n ≤ y)) = _
            rw [Bool.true_and, Bool.decide_and]
          rw [es]
          refine ⟨_, rfl, u, _, 0, .int x, rfl, rfl, .inl (.inl hu), atI_nat (j := 0) rfl, _, rfl, _, _, rfl, rfl, _, rfl, ?_⟩
          by_cases c1 : x < n
          · rw [decide_eq_true c1]
            exact iteT ⟨_, rfl, u, _, 1, .int y, rfl, rfl, .inl (.inl hu), atI_nat (j := 1) rfl, _, _, rfl, rfl, rfl, rfl⟩
          · rw [decide_eq_false c1]
            exact iteF ⟨rfl, rfl⟩
        · refine if_neg_of (fun z => l2 (by have := V.int.inj (of_decide_eq_true z); omega)) ⟨?_, rfl⟩
          have : strandB n b = false := by
            unfold strandB
            rw [decide_eq_false l2]
            rfl
          rw [this]
          rfl
      rintro σ H1 ⟨rfl, rfl⟩
      have bOk : ∀ {x : Str}, z = x → blockOk z n b = blockOk x n b := fun e => by rw [e]
      refine ⟨fun σ H' => σ = [some (.str z), some (.ref t), some (.int n), some (.int m), some (.ref tb), some (.ref u), some (.bl (strandB n b))] ∧ H' = H1 ∧ (z = "threads" ∨ z = "loose" → blockOk z n b = true), ?_, ?_⟩
      · have hq : blockOk z n b = false → Q (.bl false) H1 := fun h => by rw [bad h] at q; exact q
        refine ⟨_, rfl, rfl, _, rfl, ?_⟩
        by_cases c1 : z = "threads"
        · refine if_pos_of (decide_eq_true (congrArg V.str c1)) ?_
          have e1 : blockOk z n b = strandB n b := bOk c1
          cases cs : strandB n b with
          | true =>
            refine ⟨_, rfl, true, rfl, if_neg_of Bool.false_ne_true ?_⟩
            refine ⟨_, rfl, rfl, _, rfl, if_neg_of (fun z => by have := V.str.inj (of_decide_eq_true z); rw [c1] at this; exact absurd this (by decide)) (if_neg_of Bool.false_ne_true ⟨rfl, rfl, fun _ => by rw [e1, cs]⟩)⟩
          | false =>
            exact ⟨_, rfl, false, rfl, if_pos_of rfl (iteT (hq (by rw [e1, cs])))⟩
        · refine if_neg_of (fun z => c1 (V.str.inj (of_decide_eq_true z))) (if_neg_of Bool.false_ne_true ?_)
          refine ⟨_, rfl, rfl, _, rfl, ?_⟩
          by_cases c2 : z = "loose"
          · refine if_pos_of (decide_eq_true (congrArg V.str c2)) ?_
            have e1 : blockOk z n b = (decide (b.length = 1) || strandB n b) := bOk c2
            cases cs : strandB n b with
            | true =>
              exact ⟨_, rfl, true, rfl, if_neg_of Bool.false_ne_true (if_neg_of Bool.false_ne_true ⟨rfl, rfl, fun _ => by rw [e1, cs, Bool.or_true]⟩)⟩
            | false =>
              refine ⟨_, rfl, false, rfl, if_pos_of rfl ⟨_, rfl, u, _, rfl, .inr (.inl (.inl hu)), _, _, rfl, rfl, _, rfl, ?_⟩⟩
              rw [List.length_map]
              have bne : b ≠ [] := nb b mb
              have lpos := List.length_pos_iff.mpr bne
              by_cases c3 : b.length = 1
              · exact if_neg_of (fun z => by have := of_decide_eq_true z; omega) ⟨rfl, rfl, fun _ => by rw [e1, decide_eq_true c3]; rfl⟩
              · exact if_pos_of (decide_eq_true (by omega)) (hq (by rw [e1, cs, decide_eq_false c3]; rfl))
          · exact if_neg_of (fun z => c2 (V.str.inj (of_decide_eq_true z))) (if_neg_of Bool.false_ne_true ⟨rfl, rfl, fun h => absurd h (fun h => h.elim c1 c2)⟩)
      rintro σ H1 ⟨rfl, rfl, k1⟩
      have hq : blockOk z n b = false → Q (.bl false) H1 := fun h => by rw [bad h] at q; exact q
      have sz : ∀ {x : Str}, z = x → x ≠ "threads" → x ≠ "loose" → blockOk z n b = sizeOk x b.length := fun {x} e h1 h2 => by
        rw [e]
        unfold blockOk
        rw [if_neg h1, if_neg h2]
      refine ⟨fun σ H' => σ = [some (.str z), some (.ref t), some (.int n), some (.int m), some (.ref tb), some (.ref u), some (.bl (strandB n b))] ∧ H' = H1 ∧ (z ≠ "even" → blockOk z n b = true), ?_, ?_⟩
      · refine ⟨_, rfl, rfl, _, rfl, ?_⟩
        by_cases c1 : z = "pairs"
        · refine if_pos_of (decide_eq_true (congrArg V.str c1)) ?_
          have e1 : blockOk z n b = decide (b.length = 2) := sz c1 (by decide) (by decide)
          refine ⟨_, rfl, u, _, rfl, .inr (.inl (.inl hu)), rfl, _, rfl, ?_⟩
          rw [List.length_map]
          by_cases c3 : b.length = 2
          · refine if_neg_of (by rw [show V.int ((b.length : Nat) : Int) = V.int 2 by rw [c3]; rfl, decide_eq_true rfl]; exact Bool.false_ne_true) ?_
            refine ⟨_, rfl, rfl, _, rfl, if_neg_of (fun z => by have := V.str.inj (of_decide_eq_true z); rw [c1] at this; exact absurd this (by decide)) (if_neg_of Bool.false_ne_true ⟨rfl, rfl, fun _ => by rw [e1, decide_eq_true c3]⟩)⟩
          · exact if_pos_of (by rw [decide_eq_false fun z => c3 (by have := V.int.inj z; omega)]; rfl) (iteT (hq (by rw [e1, decide_eq_false c3])))
        · refine if_neg_of (fun z => c1 (V.str.inj (of_decide_eq_true z))) (if_neg_of Bool.false_ne_true ?_)
          refine ⟨_, rfl, rfl, _, rfl, ?_⟩
          by_cases c2 : z = "lonepairs"
          · refine if_pos_of (decide_eq_true (congrArg V.str c2)) ?_
            have e1 : blockOk z n b = decide (b.length ≤ 2) := sz c2 (by decide) (by decide)
            refine ⟨_, rfl, u, _, rfl, .inr (.inl (.inl hu)), _, _, rfl, rfl, _, rfl, ?_⟩
            rw [List.length_map]
            by_cases c3 : b.length ≤ 2
            · exact if_neg_of (fun z => by have := of_decide_eq_true z; omega) ⟨rfl, rfl, fun _ => by rw [e1, decide_eq_true c3]⟩
            · exact if_pos_of (decide_eq_true (by omega)) (hq (by rw [e1, decide_eq_false c3]))
          · refine if_neg_of (fun z => c2 (V.str.inj (of_decide_eq_true z))) (if_neg_of Bool.false_ne_true ⟨rfl, rfl, fun ne => ?_⟩)
            by_cases c3 : z = "threads" ∨ z = "loose"
            · exact k1 c3
            · have : z = "parts" := by
                unfold fams at mz
                simp only [List.mem_cons, List.not_mem_nil, or_false] at mz
                rcases mz with h | h | h | h | h | h
                · exact absurd (.inl h) c3
                · exact absurd (.inr h) c3
                · exact absurd h c1
                · exact absurd h c2
                · exact absurd h ne
                · exact h
              rw [sz this (by decide) (by decide)]
              rfl
      clear k1
      rintro σ H1 ⟨rfl, rfl, k1⟩
      have fin : blockOk z n b = true → (bs.take (i + 1)).all (blockOk z n) = true := fun h => by rw [et]; exact h
      refine ⟨_, rfl, rfl, _, rfl, ?_⟩
      by_cases c1 : z = "even"
      · refine if_pos_of (decide_eq_true (congrArg V.str c1)) ?_
        have e1 : blockOk z n b = decide (b.length % 2 = 0) := sz c1 (by decide) (by decide)
        refine ⟨_, rfl, u, _, rfl, .inr (.inl (.inl hu)), .inl ⟨_, rfl, _, 2, rfl, rfl, (show (0 : Int) < 2 by decide), rfl, _, rfl, ?_⟩⟩
        rw [List.length_map]
        by_cases c3 : b.length % 2 = 0
        · exact if_neg_of (fun z => by have := V.int.inj (of_decide_eq_true z); omega) ⟨_, _, rfl, rfl, fin (by rw [e1, decide_eq_true c3])⟩
        · exact if_pos_of (decide_eq_true (congrArg V.int (show ((b.length : Nat) : Int) % 2 = 1 by omega))) (hq (by rw [e1, decide_eq_false c3]))
      · exact if_neg_of (fun z => c1 (V.str.inj (of_decide_eq_true z))) (if_neg_of Bool.false_ne_true ⟨_, _, rfl, rfl, fin (k1 c1)⟩)
    · obtain ⟨v5, v6, rfl, rfl, al⟩ := hP
      rw [pr.length, List.take_length] at al
      have : inFam z n bs = true := al
      rw [this] at q
      exact q
end

/-! ### _law_all -/
def mxI (row : List Int) : Int := row.foldl max (-1)
def nxR (row : List Int) (j : Nat) : List (List Int) := (List.range j).map fun (u : Nat) => row ++ [(u : Int)]
def topR (row : List Int) : Nat := (mxI row + 2).toNat
def accR (l : List (List Int)) : List (List Int) := (l.map fun row => nxR row (topR row)).flatten
def rgR : Nat → List (List Int)
  | 0 => [[]]
  | k + 1 => accR (rgR k)
theorem accR_snoc (l : List (List Int)) (row : List Int) : accR (l ++ [row]) = accR l ++ nxR row (topR row) := by
  unfold accR
  rw [List.map_append, List.flatten_append]
  show _ ++ (_ ++ []) = _
  rw [List.append_nil]
theorem accR_take (l : List (List Int)) (i : Nat) : (accR (l.take i)).length ≤ (accR l).length := by
  conv => rhs; rw [← List.take_append_drop i l]
  unfold accR
  rw [List.map_append, List.flatten_append, List.length_append]
  omega
theorem nxR_take {row : List Int} {d j : Nat} (h : j < d) : (nxR row d).take (j + 1) = (nxR row d).take j ++ [row ++ [(j : Int)]] := by
  unfold nxR
  rw [List.take_succ, List.getElem?_map, List.getElem?_range h]
  rfl
theorem nxR_len (row : List Int) (d : Nat) : (nxR row d).length = d := by
  unfold nxR
  rw [List.length_map, List.length_range]
theorem fold_max : ∀ (l : List Int) (a m : Int), m ∈ a :: l → (∀ y ∈ a :: l, y ≤ m) → l.foldl max a = m
  | [], a, m, h, _ => (List.mem_singleton.mp h).symm
  | x :: l, a, m, h, k => by
    show l.foldl max (max a x) = m
    have ka := k a List.mem_cons_self
    have kx := k x (List.mem_cons_of_mem _ List.mem_cons_self)
    refine fold_max l _ m ?_ fun y hy => ?_
    · rcases List.mem_cons.mp h with h | h
      · rw [show max a x = m by omega]; exact List.mem_cons_self
      · rcases List.mem_cons.mp h with h | h
        · rw [show max a x = m by omega]; exact List.mem_cons_self
        · exact List.mem_cons_of_mem _ h
    · rcases List.mem_cons.mp hy with hy | hy
      · omega
      · exact k y (List.mem_cons_of_mem _ (List.mem_cons_of_mem _ hy))
theorem rgR_ok : ∀ {k : Nat} {row : List Int}, row ∈ rgR k → row.length = k ∧ mxI row < (k : Int)
  | 0, row, h => by
    rw [List.mem_singleton.mp h]
    exact ⟨rfl, by decide⟩
  | k + 1, row, h => by
    obtain ⟨l, hl, hx⟩ := List.mem_flatten.mp (show row ∈ (_ : List (List (List Int))).flatten from h)
    obtain ⟨g, hg, rfl⟩ := List.mem_map.mp hl
    obtain ⟨u, hu, rfl⟩ := List.mem_map.mp hx
    obtain ⟨a, b⟩ := rgR_ok hg
    have hu := List.mem_range.mp hu
    unfold topR at hu
    refine ⟨by rw [List.length_append, a]; rfl, ?_⟩
    unfold mxI at b hu ⊢
    rw [List.foldl_append]
    show max _ (u : Int) < _
    omega
section
variable {P : Program} {w : World} {K : PySem.W.Frag} {mg : Str → Option Value} {base : Heap}
def spAll : Sp := fun vs H Q _ => ∃ (z : Str) (n m : Nat), vs = [.str z, .int (n : Int), .int (m : Int)] ∧ z ∈ fams ∧ siz n m = true ∧ (∀ k, k ≤ n + m → (rgR k).length ≤ 5000) ∧ ∀ L us H', Same H H' → H' L = some (.lst us) → Paired (fun v bs => DGv H' v n m bs) us (((rgR (n + m)).map blocksOf).filter (inFam z n)) → Q (.ref L) H'
theorem ok_law_all {f : Addr} {fd : FuncData} (F : Fun K "_law_all" "_law_all" s_law_all f fd) (z_range : mg "range" = none) (z_max : mg "max" = none)
    {a_law_marked : Addr} {fd_law_marked : FuncData} (G_law_marked : FnOk P w K mg base CX0 1 a_law_marked fd_law_marked ["n", "m", "marks"] (spMarked K)) (g_law_marked : mg "_law_marked" = some (.ref a_law_marked)) (k_law_marked : PySem.W.keepIn K (.ref a_law_marked) = true) (b_law_marked : Binds K fd_law_marked ["n", "m", "marks"] [])
    {a_law_belongs : Addr} {fd_law_belongs : FuncData} (G_law_belongs : FnOk P w K mg base CX0 1 a_law_belongs fd_law_belongs ["family", "diagram"] spBelongs) (g_law_belongs : mg "_law_belongs" = some (.ref a_law_belongs)) (k_law_belongs : PySem.W.keepIn K (.ref a_law_belongs) = true) (b_law_belongs : Binds K fd_law_belongs ["family", "diagram"] []) :
    FnOk P w K mg base CX0 2 f fd ["family", "n", "m"] spAll := by
  refine F.ok sc_law_all (fun vs H Q E h => ?_) (fun cdv A outer s H vs Q E hr h => ?_)
  · obtain ⟨z, n, m, rfl, _⟩ := h
    rfl
  · obtain ⟨z, n, m, rfl, mz, sz, few, q⟩ := h
    refine ⟨_, (pss_cons (ps_set (i := 3) sc_law_all.nd rfl (.inl rfl) (pe_lst (pa_cons (pe_tup pa_nil) pa_nil)))
  (pss_cons (ps_for PassesOwn.never rfl (pi_range1 rfl z_range (pa_cons (pe_op op_add (pv 1) (pv 2)) pa_nil)) (pg_name (i := 4) sc_law_all.nd rfl (.inl rfl)) (pss_cons (ps_set (i := 5) sc_law_all.nd rfl (.inl rfl) (pe_lst pa_nil))
  (pss_cons (ps_for PassesOwn.never rfl (pi_list (pv 3)) (pg_name (i := 6) sc_law_all.nd rfl (.inr rfl)) (pss_one (ps_set (i := 5) sc_law_all.nd rfl (.inl rfl) (pe_op op_cat (pv 5) (pe_lc (own := [("label", 9)]) rfl sc_law_all.nd (pi_range1 rfl z_range (pa_cons (pe_op op_add (pe_callB (cr_maxTI rfl (room64 hr)) (by rfl) z_max boot_max (pa_cons (pe_op op_catC (pe_tup (pa_cons (pe_un un_neg pe_int) pa_nil)) (pv 6)) pa_nil)) pe_int) pa_nil)) (blkOk_by (N := ["family", "n", "m", "rows", "j", "longer", "row", "found", "diagram", "label"]) (sc := defScope s_law_all) (by first | decide +kernel | rfl)) (fun _ _ _ _ _ => (pg_name (i := 9) sc_law_all.nd rfl (.inl rfl))) (fun _ _ _ _ _ => pts_nil) (fun _ _ _ _ _ => (pe_op op_catC (pv 6) (pe_tup (pa_cons (pv 9) pa_nil)))))))))
  (pss_one (ps_set (i := 3) sc_law_all.nd rfl (.inl rfl) (pv 5))))))
  (pss_cons (ps_setLc (i := 7) (own := [("row", 6)]) rfl sc_law_all.nd rfl rfl (sw_true rfl rfl rfl (by decide +kernel)) (pi_list (pv 3)) (blkOk_by (N := ["family", "n", "m", "rows", "j", "longer", "row", "found", "diagram", "label"]) (sc := defScope s_law_all) (by first | decide +kernel | rfl)) (fun _ _ _ _ _ => (pg_name (i := 6) sc_law_all.nd rfl (.inl rfl))) (fun _ _ _ _ _ => pts_nil) (fun _ _ _ _ _ => (pe_call G_law_marked (hr.mono (by decide)) rfl g_law_marked k_law_marked b_law_marked .nil pass0 (pa_cons (pv 1) (pa_cons (pv 2) (pa_cons (pv 6) pa_nil))))))
  (pss_one (ps_ret (pe_lc (own := [("diagram", 8)]) rfl sc_law_all.nd (pi_list (pv 7)) (blkOk_by (N := ["family", "n", "m", "rows", "j", "longer", "row", "found", "diagram", "label"]) (sc := defScope s_law_all) (by first | decide +kernel | rfl)) (fun _ _ _ _ _ => (pg_name (i := 8) sc_law_all.nd rfl (.inl rfl))) (fun _ _ _ _ _ => pts_one (pt_val (pe_call G_law_belongs (hr.mono (by decide)) rfl g_law_belongs k_law_belongs b_law_belongs .nil pass0 (pa_cons (pv 0) (pa_cons (pv 8) pa_nil))))) (fun _ _ _ _ _ => (pv 8)))))))), ?_⟩
    have szl : 20000 ≤ sizeLine := by decide
    have hs := siz_iff.mp sz
    refine ⟨(by show 0 ≤ sizeLine; omega), fun e1 ne1 => ⟨(by show 1 ≤ sizeLine; omega), fun R0 nR0 => ?_⟩⟩
    have w0 := same_upd (o := .lst [V.ref e1]) nR0
    have s1 : Same H (upd (upd H e1 (.tup [])) R0 (.lst [.ref e1])) := Same.trans (same_upd ne1) w0
    have pr1 : Paired (TP (upd (upd H e1 (.tup [])) R0 (.lst [.ref e1]))) [.ref e1] (rgR 0) := .cons ⟨e1, rfl, w0 _ _ upd_same⟩ .nil
    have hR1 : upd (upd H e1 (.tup [])) R0 (.lst [.ref e1]) R0 = some (.lst [.ref e1]) := upd_same
    generalize upd (upd H e1 (.tup [])) R0 (.lst [.ref e1]) = H1 at *
    refine ⟨_, rfl, _, rfl, _, _, rfl, rfl, (n : Int) + (m : Int), rfl, by omega, by omega, ?_⟩
    rw [show ((n : Int) + (m : Int)).toNat = n + m by omega]
    refine for_range (lo := 0) (n := n + m) (fun k σ H' => ∃ (R : Addr) (ps : List V) (v4 v5 v6 : Option V), σ = [some (.str z), some (.int (n : Int)), some (.int (m : Int)), some (.ref R), v4, v5, v6, none, none, none] ∧ Same H H' ∧ H' R = some (.lst ps) ∧ Paired (TP H') ps (rgR k))
      ⟨R0, _, none, none, none, rfl, s1, hR1, pr1⟩ (fun k σ H3 hk hP => ?_) (fun σ H3 hP => ?_)
    · obtain ⟨R, ps, v4, v5, v6, rfl, s3, hR, pr⟩ := hP
      refine ⟨(by show 0 ≤ sizeLine; omega), fun L nL => ?_⟩
      have tot : (accR (rgR k)).length ≤ 5000 := few (k + 1) (by omega)
      have w1 := same_upd (o := .lst []) nL
      refine ⟨_, rfl, R, rfl, ⟨_, .inl (.inl (w1 _ _ hR))⟩, for_list (xs := ps) (fun i σ H' => ∃ (L : Addr) (qs : List V) (v6 : Option V), σ = [some (.str z), some (.int (n : Int)), some (.int (m : Int)), some (.ref R), some (.int (0 + (k : Int))), some (.ref L), v6, none, none, none] ∧ Same H3 H' ∧ H' L = some (.lst qs) ∧ Paired (TP H') qs (accR ((rgR k).take i)))
        ⟨L, [], v6, rfl, w1, upd_same, .nil⟩ (fun i σ H' _ ⟨_, _, _, _, s', _⟩ => .inl (.inl (s' _ _ hR))) (fun i x σ H4 hx hP => ?_) (fun σ H4 hP => ?_)⟩
      · obtain ⟨L, qs, v6, rfl, s4, hL, pq⟩ := hP
        obtain ⟨row, er, ax, rfl, hax⟩ := paired_get pr hx
        have et : (rgR k).take (i + 1) = (rgR k).take i ++ [row] := by rw [List.take_succ, er]; rfl
        have atk := accR_take (rgR k) (i + 1)
        rw [et, accR_snoc] at atk ⊢
        rw [List.length_append, nxR_len] at atk
        obtain ⟨lrow, mrow⟩ := rgR_ok (List.mem_of_getElem? er)
        have ha4 := s4 _ _ hax
        refine ⟨_, rfl, 1, rfl, (by show 1 ≤ sizeLine; omega), fun q0 nq0 => ?_⟩
        have x0 := same_upd (o := .tup [V.int (-1)]) nq0
        refine ⟨_, rfl, q0, ax, _, _, rfl, rfl, upd_same, x0 _ _ ha4, by rw [List.length_map]; show 1 + _ ≤ _; omega, fun q1 H5 x1 hq1 => ?_⟩
        have x1 := Same.trans x0 x1
        refine ⟨q1, -1 :: row, rfl, .inl (.inl hq1), by rw [List.length_cons]; omega, fun mm hm hle => ?_⟩
        have emx : mxI row = mm := fold_max row (-1) mm hm hle
        have mp := hle (-1) List.mem_cons_self
        have et2 : topR row = (mm + 2).toNat := by unfold topR; rw [emx]
        refine ⟨_, _, rfl, rfl, mm + 2, rfl, by omega, by omega, fun D nD => ?_⟩
        rw [← et2]
        have s45 := Same.trans s4 x1
        have ha5 := x1 _ _ ha4
        have hL5 := x1 _ _ hL
        have pq5 : Paired (TP H5) qs (accR ((rgR k).take i)) := Paired.mapP pq fun _ _ h => h.same x1
        have aD : ax ≠ D := ne_of_none ha5 nD
        refine lc_range (lo := 0) (n := topR row) (fun j H' => SameBut D H5 H' ∧ ∃ us, H' D = some (.lst us) ∧ Paired (TP H') us ((nxR row (topR row)).take j)) ⟨SameBut.upd, [], upd_same, .nil⟩ (fun j H6 hj hP => ?_) (fun H6 hP => ?_)
        · obtain ⟨sb, us, hD, pu⟩ := hP
          refine ⟨rfl, ?_⟩
          rw [show (0 : Int) + (j : Int) = (j : Int) from Int.zero_add _]
          have lu : us.length ≤ 1000 := by
            rw [pu.length, List.length_take]
            omega
          have ha6 := sb _ _ aD ha5
          refine ⟨_, rfl, _, rfl, (by show 1 ≤ sizeLine; omega), fun q1 nq1 => ?_⟩
          have x1 := same_upd (o := .tup [V.int (j : Int)]) nq1
          refine ⟨_, _, _, _, rfl, rfl, x1 _ _ ha6, upd_same, by rw [List.length_map]; show _ + 1 ≤ _; omega, fun q2 H7 x2 hq2 => ?_⟩
          have x2 := Same.trans x1 x2
          have hq2 : H7 q2 = some (.tup ((row ++ [(j : Int)]).map V.int)) := by rw [hq2, List.map_append]; rfl
          have hD7 := x2 _ _ hD
          refine ⟨_, hD7, by omega, sb.trans fun b o nb e => SameBut.upd b o nb (x2 b o e), _, upd_same, ?_⟩
          rw [nxR_take hj]
          exact Paired.mapP (paired_add ⟨q2, rfl, hq2⟩ (Paired.mapP pu fun _ _ h => h.same x2)) fun _ _ h => TP.butL hD7 SameBut.upd h
        · obtain ⟨sb, us, hD, pu⟩ := hP
          rw [List.take_of_length_le (Nat.le_of_eq (nxR_len row _))] at pu
          have s56 : Same H5 H6 := fun b o e => sb b o (ne_of_none e nD) e
          refine ⟨_, _, _, _, rfl, rfl, s56 _ _ hL5, hD, ?_, fun M nM => ?_⟩
          · rw [pq.length, pu.length, nxR_len]
            omega
          · have y1 := Same.trans s56 (same_upd (o := .lst (qs ++ us)) nM)
            refine ⟨M, _, _, rfl, Same.trans s45 y1, upd_same, paired_app (Paired.mapP pq5 fun _ _ h => h.same y1) (Paired.mapP pu fun _ _ h => h.same (same_upd nM))⟩
      · obtain ⟨L, qs, v6, rfl, s4, hL, pq⟩ := hP
        rw [pr.length, List.take_length] at pq
        exact ⟨_, rfl, L, qs, _, _, _, rfl, Same.trans s3 s4, hL, pq⟩
    · obtain ⟨R, ps, v4, v5, v6, rfl, s3, hR, pr⟩ := hP
      have lr := few (n + m) (Nat.le_refl _)
      refine ⟨_, rfl, R, rfl, ⟨_, .inl (.inl hR)⟩, fun D nD => ?_⟩
      have RD : R ≠ D := ne_of_none hR nD
      have kD : ∀ {H' : Hp}, SameBut D H3 H' → Same H3 H' := fun sb b o e => sb b o (ne_of_none e nD) e
      refine lc_list (xs := ps) (fun i H' => SameBut D H3 H' ∧ ∃ us, H' D = some (.lst us) ∧ Paired (fun v bs => DGv H' v n m bs) us (((rgR (n + m)).take i).map blocksOf)) ⟨SameBut.upd, [], upd_same, .nil⟩ (fun i H' _ hP => .inl (.inl (hP.1 _ _ RD hR))) (fun i x H4 hx hP => ?_) (fun H4 hP => ?_)
      · obtain ⟨sb, us, hD, pu⟩ := hP
        obtain ⟨row, er, ax, rfl, hax⟩ := paired_get pr hx
        obtain ⟨lrow, _⟩ := rgR_ok (List.mem_of_getElem? er)
        refine ⟨rfl, _, rfl, _, rfl, _, rfl, n, m, ax, row, rfl, .inl (.inl (kD sb _ _ hax)), by omega, by omega, fun v H5 s5 _ dv => ?_⟩
        have hD5 := s5 _ _ hD
        refine ⟨_, hD5, by rw [pu.length, List.length_map, List.length_take]; omega, (sb.trans (Same.but s5)).trans SameBut.upd, _, upd_same, ?_⟩
        rw [List.take_succ, er, List.map_append]
        have pu5 : Paired (fun v bs => DGv H5 v (n : Int) (m : Int) bs) us _ := Paired.mapP pu fun _ _ h => DGv.same s5 h
        exact Paired.mapP (paired_add (F := fun v bs => DGv H5 v (n : Int) (m : Int) bs) dv pu5) fun _ _ h => DGv.butL hD5 SameBut.upd h
      · obtain ⟨sb, us, hD, pu⟩ := hP
        rw [pr.length, List.take_length] at pu
        have s34 := kD sb
        have lu := pu.length
        rw [List.length_map] at lu
        refine ⟨_, rfl, D, rfl, ⟨_, .inl (.inl hD)⟩, fun D2 nD2 => ?_⟩
        have DD : D ≠ D2 := ne_of_none hD nD2
        have kD2 : ∀ {H' : Hp}, SameBut D2 H4 H' → Same H4 H' := fun sb b o e => sb b o (ne_of_none e nD2) e
        refine lc_list (xs := us) (fun i H' => SameBut D2 H4 H' ∧ ∃ ws, ws.length ≤ i ∧ H' D2 = some (.lst ws) ∧ Paired (fun v bs => DGv H' v n m bs) ws ((((rgR (n + m)).map blocksOf).take i).filter (inFam z n))) ⟨SameBut.upd, [], Nat.le_refl _, upd_same, .nil⟩ (fun i H' _ hP => .inl (.inl (hP.1 _ _ DD hD))) (fun i x H5 hx hP => ?_) (fun H5 hP => ?_)
        · obtain ⟨sb2, ws, lw, hD2, pw⟩ := hP
          obtain ⟨bs, eb, dv⟩ := paired_get pu hx
          have li := (List.getElem?_eq_some_iff.mp hx).1
          have nb : ∀ b ∈ bs, b ≠ [] := by
            obtain ⟨row, _, rfl⟩ := List.mem_map.mp (List.mem_of_getElem? eb)
            exact blocks_ne
          have dv5 : DGv H5 x n m bs := DGv.same (kD2 sb2) dv
          have et : (((rgR (n + m)).map blocksOf).take (i + 1)).filter (inFam z n) = (((rgR (n + m)).map blocksOf).take i).filter (inFam z n) ++ (if inFam z n bs = true then [bs] else []) := by
            rw [List.take_succ, eb, List.filter_append]
            show _ ++ List.filter _ [bs] = _
            rw [List.filter_cons]
            rfl
          refine ⟨rfl, _, rfl, _, rfl, z, x, n, m, bs, rfl, dv5, mz, nb, _, rfl, ?_⟩
          by_cases c : inFam z n bs = true
          · refine if_pos_of c ⟨_, rfl, ws, hD2, by omega, sb2.trans SameBut.upd, _, by rw [List.length_append]; show _ + 1 ≤ _; omega, upd_same, ?_⟩
            rw [et, if_pos c]
            exact Paired.mapP (paired_add (F := fun v bs => DGv H5 v (n : Int) (m : Int) bs) dv5 pw) fun _ _ h => DGv.butL hD2 SameBut.upd h
          · refine if_neg_of c ⟨sb2, ws, by omega, hD2, ?_⟩
            rw [et, if_neg c, List.append_nil]
            exact pw
        · obtain ⟨sb2, ws, lw, hD2, pw⟩ := hP
          rw [pu.length, List.take_length] at pw
          exact q D2 ws H5 (Same.trans s3 (Same.trans s34 (kD2 sb2))) hD2 pw
end

section
variable {P : Program} {w : World} {K : PySem.W.Frag} {mg : Str → Option Value} {base : Heap}
/-! ### _law_kind -/
theorem fl_pos {z x : Str} {l : List Str} (h : x = z) : ((l ++ [x]).filter fun t => decide (t = z)).map V.str = (l.filter fun t => decide (t = z)).map V.str ++ [.str x] := by
  rw [List.filter_append, List.map_append, List.filter_cons, decide_eq_true h]
  rfl
theorem fl_neg {z x : Str} {l : List Str} (h : x ≠ z) : ((l ++ [x]).filter fun t => decide (t = z)).map V.str = (l.filter fun t => decide (t = z)).map V.str := by
  rw [List.filter_append, List.filter_cons, decide_eq_false h]
  exact congrArg _ (List.append_nil _)
theorem fl_len (z : Str) (l : List Str) : ((l.filter fun t => decide (t = z)).map V.str).length ≤ l.length := by
  rw [List.length_map]
  exact List.length_filter_le _ _
/-- what an error class must say here: its name is z -/
structure KindE (K : PySem.W.Frag) (CE X_NotWorld X_NotFamily CD X_NotNumber CB X_TooLarge D : Addr) (z : Str) : Prop where
  C : ExcC K D
  e : PySem.W.kitOne K (.ref D) (.ref CE) = some true
  n : z ∈ (["world", "family", "diagram", "value", "number", "large"] : List Str)
  k0 : PySem.W.kitOne K (.ref D) (.ref X_NotWorld) = some (decide (("world" : Str) = z))
  k1 : PySem.W.kitOne K (.ref D) (.ref X_NotFamily) = some (decide (("family" : Str) = z))
  k2 : PySem.W.kitOne K (.ref D) (.ref CD) = some (decide (("diagram" : Str) = z))
  k3 : PySem.W.kitOne K (.ref D) (.ref X_NotNumber) = some (decide (("value" : Str) = z))
  k4 : PySem.W.kitOne K (.ref D) (.ref CB) = some (decide (("number" : Str) = z))
  k5 : PySem.W.kitOne K (.ref D) (.ref X_TooLarge) = some (decide (("large" : Str) = z))
def spLErr (K : PySem.W.Frag) (CE X_NotWorld X_NotFamily CD X_NotNumber CB X_TooLarge : Addr) : Addr → Value → Option Addr → Sp := fun a cls d vs H Q _ => ∃ D z, cls = .ref D ∧ d = none ∧ vs = [.ref a] ∧ KindE K CE X_NotWorld X_NotFamily CD X_NotNumber CB X_TooLarge D z ∧ ∀ H', Same H H' → Q (.str (("!" : Str) ++ z)) H'
theorem ok_law_kind {f CE X_NotWorld X_NotFamily CD X_NotNumber CB X_TooLarge : Addr} {fd : FuncData} (F : Fun K "_law_kind" "_law_kind" s_law_kind f fd) (m_WorthError : mg "WorthError" = some (.ref CE)) (m_NotWorld : mg "NotWorld" = some (.ref X_NotWorld)) (m_NotFamily : mg "NotFamily" = some (.ref X_NotFamily)) (m_NotDiagram : mg "NotDiagram" = some (.ref CD)) (m_NotNumber : mg "NotNumber" = some (.ref X_NotNumber)) (m_BadNumber : mg "BadNumber" = some (.ref CB)) (m_TooLarge : mg "TooLarge" = some (.ref X_TooLarge)) (z_isinstance : mg "isinstance" = none) (z_len : mg "len" = none) :
    FnE P w K mg base 1 f fd ["error"] (spLErr K CE X_NotWorld X_NotFamily CD X_NotNumber CB X_TooLarge) := by
  have r_WorthError : RelV (.ref CE) (.ref CE) := rfl
  have r_NotWorld : RelV (.ref X_NotWorld) (.ref X_NotWorld) := rfl
  have r_NotFamily : RelV (.ref X_NotFamily) (.ref X_NotFamily) := rfl
  have r_NotDiagram : RelV (.ref CD) (.ref CD) := rfl
  have r_NotNumber : RelV (.ref X_NotNumber) (.ref X_NotNumber) := rfl
  have r_BadNumber : RelV (.ref CB) (.ref CB) := rfl
  have r_TooLarge : RelV (.ref X_TooLarge) (.ref X_TooLarge) := rfl
  refine F.okE sc_law_kind (fun a cls d vs H Q E h => ?_) (fun cdv A outer s H vs Q E a oe cls d hz hf hr h => ?_)
  · obtain ⟨D, z, _, _, rfl, _⟩ := h
    rfl
  · obtain ⟨D, z, rfl, rfl, rfl, k, q⟩ := h
    refine ⟨_, (pss_cons (ps_set (i := 1) sc_law_kind.nd rfl (.inl rfl) (pe_lst pa_nil))
  (Evl.pss_cut (ps_if (pt_val (pe_callB (call_isEH hz hf) (by rfl) z_isinstance boot_isinstance (pa_cons (pv 0) (pa_cons (pe_glob rfl m_NotWorld r_NotWorld) pa_nil)))) (pss_one (ps_expr (pe_bm PySem.F.plainAttrs_list PySem.F.slot_list_append PySem.F.type_list_append mt_append (pv 1) (pa_cons pe_str pa_nil)))) pss_nil)
  (Evl.pss_cut (ps_if (pt_val (pe_callB (call_isEH hz hf) (by rfl) z_isinstance boot_isinstance (pa_cons (pv 0) (pa_cons (pe_glob rfl m_NotFamily r_NotFamily) pa_nil)))) (pss_one (ps_expr (pe_bm PySem.F.plainAttrs_list PySem.F.slot_list_append PySem.F.type_list_append mt_append (pv 1) (pa_cons pe_str pa_nil)))) pss_nil)
  (Evl.pss_cut (ps_if (pt_val (pe_callB (call_isEH hz hf) (by rfl) z_isinstance boot_isinstance (pa_cons (pv 0) (pa_cons (pe_glob rfl m_NotDiagram r_NotDiagram) pa_nil)))) (pss_one (ps_expr (pe_bm PySem.F.plainAttrs_list PySem.F.slot_list_append PySem.F.type_list_append mt_append (pv 1) (pa_cons pe_str pa_nil)))) pss_nil)
  (Evl.pss_cut (ps_if (pt_val (pe_callB (call_isEH hz hf) (by rfl) z_isinstance boot_isinstance (pa_cons (pv 0) (pa_cons (pe_glob rfl m_NotNumber r_NotNumber) pa_nil)))) (pss_one (ps_expr (pe_bm PySem.F.plainAttrs_list PySem.F.slot_list_append PySem.F.type_list_append mt_append (pv 1) (pa_cons pe_str pa_nil)))) pss_nil)
  (Evl.pss_cut (ps_if (pt_val (pe_callB (call_isEH hz hf) (by rfl) z_isinstance boot_isinstance (pa_cons (pv 0) (pa_cons (pe_glob rfl m_BadNumber r_BadNumber) pa_nil)))) (pss_one (ps_expr (pe_bm PySem.F.plainAttrs_list PySem.F.slot_list_append PySem.F.type_list_append mt_append (pv 1) (pa_cons pe_str pa_nil)))) pss_nil)
  (Evl.pss_cut (ps_if (pt_val (pe_callB (call_isEH hz hf) (by rfl) z_isinstance boot_isinstance (pa_cons (pv 0) (pa_cons (pe_glob rfl m_TooLarge r_TooLarge) pa_nil)))) (pss_one (ps_expr (pe_bm PySem.F.plainAttrs_list PySem.F.slot_list_append PySem.F.type_list_append mt_append (pv 1) (pa_cons pe_str pa_nil)))) pss_nil)
  (pss_cons (ps_if (L2.PW.pt (pw_and (pt_cmpR op_eq (pe_callB call_len_seq (by rfl) z_len boot_len (pa_cons (pv 1) pa_nil)) pe_int (nomark _)) (pw_and1 (pt_val (pe_callB (call_isEH hz hf) (by rfl) z_isinstance boot_isinstance (pa_cons (pv 0) (pa_cons (pe_glob rfl m_WorthError r_WorthError) pa_nil))))))) (pss_one (ps_ret (pe_op op_add_str pe_str (pe_ix ix_list (pv 1) pe_int (fun _ _ => rfl))))) pss_nil)
  (pss_one (ps_ret pe_str)))))))))), ?_⟩
    have szl : 20000 ≤ sizeLine := by decide
    refine ⟨(by show 0 ≤ sizeLine; decide), fun L nL => ?_⟩
    have st0 : Same H (upd H L (.lst [])) ∧ upd H L (.lst []) L = some (.lst ((([] : List Str).filter fun t => decide (t = z)).map V.str)) := ⟨same_upd nL, upd_same⟩
    revert st0
    generalize upd H L (.lst []) = H0
    intro st0
    refine ⟨fun σ H' => σ = [some (.ref a), some (.ref L)] ∧ Same H H' ∧ H' L = some (.lst (((["world"] : List Str).filter fun t => decide (t = z)).map V.str)), ?_, ?_⟩
    · refine ⟨_, rfl, D, rfl, rfl, k.C, .ref X_NotWorld, .ref X_NotWorld, _, rfl, fun _ r => r, k.k0, _, rfl, ?_⟩
      by_cases c : ("world" : Str) = z
      · refine if_pos_of (decide_eq_true c) ⟨_, rfl, .inl ⟨rfl, _, .inl (.inl st0.2)⟩, L, _, _, rfl, rfl, st0.2, Nat.lt_of_le_of_lt (fl_len z ([] : List Str)) (Nat.lt_of_lt_of_le (by decide : ([] : List Str).length < 20) (by omega)), ?_⟩
        refine ⟨rfl, Same.mut st0.1 nL, ?_⟩
        rw [show (["world"] : List Str) = ([] : List Str) ++ (["world"] : List Str) from rfl, fl_pos c]
        exact upd_same
      · refine if_neg_of (fun h => c (of_decide_eq_true h)) ⟨rfl, st0.1, ?_⟩
        rw [show (["world"] : List Str) = ([] : List Str) ++ (["world"] : List Str) from rfl, fl_neg c]
        exact st0.2
    clear st0
    rintro σ H1 ⟨rfl, st0⟩
    refine ⟨fun σ H' => σ = [some (.ref a), some (.ref L)] ∧ Same H H' ∧ H' L = some (.lst (((["world", "family"] : List Str).filter fun t => decide (t = z)).map V.str)), ?_, ?_⟩
    · refine ⟨_, rfl, D, rfl, rfl, k.C, .ref X_NotFamily, .ref X_NotFamily, _, rfl, fun _ r => r, k.k1, _, rfl, ?_⟩
      by_cases c : ("family" : Str) = z
      · refine if_pos_of (decide_eq_true c) ⟨_, rfl, .inl ⟨rfl, _, .inl (.inl st0.2)⟩, L, _, _, rfl, rfl, st0.2, Nat.lt_of_le_of_lt (fl_len z (["world"] : List Str)) (Nat.lt_of_lt_of_le (by decide : (["world"] : List Str).length < 20) (by omega)), ?_⟩
        refine ⟨rfl, Same.mut st0.1 nL, ?_⟩
        rw [show (["world", "family"] : List Str) = (["world"] : List Str) ++ (["family"] : List Str) from rfl, fl_pos c]
        exact upd_same
      · refine if_neg_of (fun h => c (of_decide_eq_true h)) ⟨rfl, st0.1, ?_⟩
        rw [show (["world", "family"] : List Str) = (["world"] : List Str) ++ (["family"] : List Str) from rfl, fl_neg c]
        exact st0.2
    clear st0
    rintro σ H2 ⟨rfl, st0⟩
    refine ⟨fun σ H' => σ = [some (.ref a), some (.ref L)] ∧ Same H H' ∧ H' L = some (.lst (((["world", "family", "diagram"] : List Str).filter fun t => decide (t = z)).map V.str)), ?_, ?_⟩
    · refine ⟨_, rfl, D, rfl, rfl, k.C, .ref CD, .ref CD, _, rfl, fun _ r => r, k.k2, _, rfl, ?_⟩
      by_cases c : ("diagram" : Str) = z
      · refine if_pos_of (decide_eq_true c) ⟨_, rfl, .inl ⟨rfl, _, .inl (.inl st0.2)⟩, L, _, _, rfl, rfl, st0.2, Nat.lt_of_le_of_lt (fl_len z (["world", "family"] : List Str)) (Nat.lt_of_lt_of_le (by decide : (["world", "family"] : List Str).length < 20) (by omega)), ?_⟩
        refine ⟨rfl, Same.mut st0.1 nL, ?_⟩
        rw [show (["world", "family", "diagram"] : List Str) = (["world", "family"] : List Str) ++ (["diagram"] : List Str) from rfl, fl_pos c]
        exact upd_same
      · refine if_neg_of (fun h => c (of_decide_eq_true h)) ⟨rfl, st0.1, ?_⟩
        rw [show (["world", "family", "diagram"] : List Str) = (["world", "family"] : List Str) ++ (["diagram"] : List Str) from rfl, fl_neg c]
        exact st0.2
    clear st0
    rintro σ H3 ⟨rfl, st0⟩
    refine ⟨fun σ H' => σ = [some (.ref a), some (.ref L)] ∧ Same H H' ∧ H' L = some (.lst (((["world", "family", "diagram", "value"] : List Str).filter fun t => decide (t = z)).map V.str)), ?_, ?_⟩
    · refine ⟨_, rfl, D, rfl, rfl, k.C, .ref X_NotNumber, .ref X_NotNumber, _, rfl, fun _ r => r, k.k3, _, rfl, ?_⟩
      by_cases c : ("value" : Str) = z
      · refine if_pos_of (decide_eq_true c) ⟨_, rfl, .inl ⟨rfl, _, .inl (.inl st0.2)⟩, L, _, _, rfl, rfl, st0.2, Nat.lt_of_le_of_lt (fl_len z (["world", "family", "diagram"] : List Str)) (Nat.lt_of_lt_of_le (by decide : (["world", "family", "diagram"] : List Str).length < 20) (by omega)), ?_⟩
        refine ⟨rfl, Same.mut st0.1 nL, ?_⟩
        rw [show (["world", "family", "diagram", "value"] : List Str) = (["world", "family", "diagram"] : List Str) ++ (["value"] : List Str) from rfl, fl_pos c]
        exact upd_same
      · refine if_neg_of (fun h => c (of_decide_eq_true h)) ⟨rfl, st0.1, ?_⟩
        rw [show (["world", "family", "diagram", "value"] : List Str) = (["world", "family", "diagram"] : List Str) ++ (["value"] : List Str) from rfl, fl_neg c]
        exact st0.2
    clear st0
    rintro σ H4 ⟨rfl, st0⟩
    refine ⟨fun σ H' => σ = [some (.ref a), some (.ref L)] ∧ Same H H' ∧ H' L = some (.lst (((["world", "family", "diagram", "value", "number"] : List Str).filter fun t => decide (t = z)).map V.str)), ?_, ?_⟩
    · refine ⟨_, rfl, D, rfl, rfl, k.C, .ref CB, .ref CB, _, rfl, fun _ r => r, k.k4, _, rfl, ?_⟩
      by_cases c : ("number" : Str) = z
      · refine if_pos_of (decide_eq_true c) ⟨_, rfl, .inl ⟨rfl, _, .inl (.inl st0.2)⟩, L, _, _, rfl, rfl, st0.2, Nat.lt_of_le_of_lt (fl_len z (["world", "family", "diagram", "value"] : List Str)) (Nat.lt_of_lt_of_le (by decide : (["world", "family", "diagram", "value"] : List Str).length < 20) (by omega)), ?_⟩
        refine ⟨rfl, Same.mut st0.1 nL, ?_⟩
        rw [show (["world", "family", "diagram", "value", "number"] : List Str) = (["world", "family", "diagram", "value"] : List Str) ++ (["number"] : List Str) from rfl, fl_pos c]
        exact upd_same
      · refine if_neg_of (fun h => c (of_decide_eq_true h)) ⟨rfl, st0.1, ?_⟩
        rw [show (["world", "family", "diagram", "value", "number"] : List Str) = (["world", "family", "diagram", "value"] : List Str) ++ (["number"] : List Str) from rfl, fl_neg c]
        exact st0.2
    clear st0
    rintro σ H5 ⟨rfl, st0⟩
    refine ⟨fun σ H' => σ = [some (.ref a), some (.ref L)] ∧ Same H H' ∧ H' L = some (.lst (((["world", "family", "diagram", "value", "number", "large"] : List Str).filter fun t => decide (t = z)).map V.str)), ?_, ?_⟩
    · refine ⟨_, rfl, D, rfl, rfl, k.C, .ref X_TooLarge, .ref X_TooLarge, _, rfl, fun _ r => r, k.k5, _, rfl, ?_⟩
      by_cases c : ("large" : Str) = z
      · refine if_pos_of (decide_eq_true c) ⟨_, rfl, .inl ⟨rfl, _, .inl (.inl st0.2)⟩, L, _, _, rfl, rfl, st0.2, Nat.lt_of_le_of_lt (fl_len z (["world", "family", "diagram", "value", "number"] : List Str)) (Nat.lt_of_lt_of_le (by decide : (["world", "family", "diagram", "value", "number"] : List Str).length < 20) (by omega)), ?_⟩
        refine ⟨rfl, Same.mut st0.1 nL, ?_⟩
        rw [show (["world", "family", "diagram", "value", "number", "large"] : List Str) = (["world", "family", "diagram", "value", "number"] : List Str) ++ (["large"] : List Str) from rfl, fl_pos c]
        exact upd_same
      · refine if_neg_of (fun h => c (of_decide_eq_true h)) ⟨rfl, st0.1, ?_⟩
        rw [show (["world", "family", "diagram", "value", "number", "large"] : List Str) = (["world", "family", "diagram", "value", "number"] : List Str) ++ (["large"] : List Str) from rfl, fl_neg c]
        exact st0.2
    clear st0
    rintro σ H6 ⟨rfl, st0⟩
    have e1 : ((["world", "family", "diagram", "value", "number", "large"] : List Str).filter fun t => decide (t = z)) = [z] := by
      have n := k.n
      simp only [List.mem_cons, List.not_mem_nil, or_false] at n
      rcases n with rfl | rfl | rfl | rfl | rfl | rfl <;> decide
    rw [e1] at st0
    have zl : z.length ≤ 20 := by
      have n := k.n
      simp only [List.mem_cons, List.not_mem_nil, or_false] at n
      rcases n with rfl | rfl | rfl | rfl | rfl | rfl <;> decide
    refine ⟨_, rfl, L, _, rfl, .inl (.inl (.inl st0.2)), rfl, _, rfl, if_pos_of rfl ⟨_, rfl, D, rfl, rfl, k.C, .ref CE, .ref CE, true, rfl, fun _ r => r, k.e, _, rfl, if_pos_of rfl ?_⟩⟩
    exact ⟨_, rfl, L, _, 0, .str z, rfl, rfl, .inl (.inl st0.2), rfl, "!", z, rfl, rfl, Nat.le_trans (Nat.add_le_add_left zl _) (Nat.le_trans (by decide) szl), q _ st0.1⟩
end

section
variable {P : Program} {w : World} {K : PySem.W.Frag} {mg : Str → Option Value} {base : Heap}
/-! ### _law_told -/
structure ErrE (K : PySem.W.Frag) (mg : Str → Option Value) (CE X_NotWorld X_NotFamily CD X_NotNumber CB X_TooLarge : Addr) : Prop where
  gE : mg "WorthError" = some (.ref CE)
  ebc : PySem.W.subIn K (.ref CE) (.type "BaseException") = some true
  ehd : PySem.W.hasDictIn K CE = true
  ety : PySem.W.typeIn K (.ref CE) = some (.type "type")
  sD : PySem.W.subIn K (.ref CD) (.ref CE) = some true
  sB : PySem.W.subIn K (.ref CB) (.ref CE) = some true
  kD : KindE K CE X_NotWorld X_NotFamily CD X_NotNumber CB X_TooLarge CD "diagram"
  kB : KindE K CE X_NotWorld X_NotFamily CD X_NotNumber CB X_TooLarge CB "number"
def TellP (p : List Int) (H : Hp) (Q : VK) (R : Prop) : Prop := (¬ IsArr p → ∀ H', Same H H' → Q (.str "!diagram") H') ∧ (IsArr p → (5 < p.length → ∀ H', Same H H' → Q (.str "!number") H') ∧ (p.length ≤ 5 → R))
def spTold68 (K : PySem.W.Frag) : Sp := fun vs H Q _ => ∃ (way : Int) (v : V), vs = [.int way, v] ∧
  ((∃ (a : Addr) (p : List Int), v = .ref a ∧ SqT K H a (p.map V.int) ∧ p.length ≤ 20 ∧
      ((way = 0 ∧ TellP p H Q (∀ v H', Same H H' → DGv H' v (p.length : Int) (p.length : Int) (thrL p p.length p.length) → Q v H')) ∨
       (way = 1 ∧ TellP p H Q (∀ H', Same H H' → Q (.int (sgn p)) H')) ∨
       (way = 2 ∧ TellP p H Q (∀ t H', Same H H' → H' t = some (.lst ((lngF p).map V.int)) → Q (.ref t) H')))) ∨
   (way = 3 ∧ ∃ (n m : Int) (bs : List (List Int)), DGv H v n m bs ∧ DgOk n m bs ∧ (¬ IsDg n m bs → ∀ H', Same H H' → Q (.str "!diagram") H') ∧
      (IsDg n m bs → (inFam "threads" n bs = false → ∀ H', Same H H' → Q (.str "!number") H') ∧ (inFam "threads" n bs = true → ∀ t H', Same H H' → TP H' (.ref t) (belL n bs) → Q (.ref t) H'))))
theorem ok_law_told {f CE X_NotWorld X_NotFamily CD X_NotNumber CB X_TooLarge : Addr} {fd : FuncData} (F : Fun K "_law_told" "_law_told" s_law_told f fd) (T : ErrE K mg CE X_NotWorld X_NotFamily CD X_NotNumber CB X_TooLarge)
    {a_thread : Addr} {fd_thread : FuncData} (G_thread : FnOk P w K mg base (L2N.CX P w) 2 a_thread fd_thread ["places"] (spThreadE K CD CB)) (g_thread : mg "thread" = some (.ref a_thread)) (k_thread : PySem.W.keepIn K (.ref a_thread) = true) (b_thread : Binds K fd_thread ["places"] [])
    {a_sign : Addr} {fd_sign : FuncData} (G_sign : FnOk P w K mg base (L2N.CX P w) 3 a_sign fd_sign ["places"] (spSignE K CD CB)) (g_sign : mg "sign" = some (.ref a_sign)) (k_sign : PySem.W.keepIn K (.ref a_sign) = true) (b_sign : Binds K fd_sign ["places"] [])
    {a_longest_fall : Addr} {fd_longest_fall : FuncData} (G_longest_fall : FnOk P w K mg base (L2N.CX P w) 3 a_longest_fall fd_longest_fall ["places"] (spLongE K CD CB)) (g_longest_fall : mg "longest_fall" = some (.ref a_longest_fall)) (k_longest_fall : PySem.W.keepIn K (.ref a_longest_fall) = true) (b_longest_fall : Binds K fd_longest_fall ["places"] [])
    {a_arrangement : Addr} {fd_arrangement : FuncData} (G_arrangement : FnOk P w K mg base (L2N.CX P w) 5 a_arrangement fd_arrangement ["diagram"] (spArrE CD CB)) (g_arrangement : mg "arrangement" = some (.ref a_arrangement)) (k_arrangement : PySem.W.keepIn K (.ref a_arrangement) = true) (b_arrangement : Binds K fd_arrangement ["diagram"] [])
    {a_law_kind : Addr} {fd_law_kind : FuncData} (G_law_kind : FnE P w K mg base  1 a_law_kind fd_law_kind ["error"] (spLErr K CE X_NotWorld X_NotFamily CD X_NotNumber CB X_TooLarge)) (g_law_kind : mg "_law_kind" = some (.ref a_law_kind)) (k_law_kind : PySem.W.keepIn K (.ref a_law_kind) = true) (b_law_kind : Binds K fd_law_kind ["error"] [])
    (n_thread_sign : a_thread ≠ a_sign) (n_thread_longest_fall : a_thread ≠ a_longest_fall) (n_thread_arrangement : a_thread ≠ a_arrangement) (n_sign_longest_fall : a_sign ≠ a_longest_fall) (n_sign_arrangement : a_sign ≠ a_arrangement) (n_longest_fall_arrangement : a_longest_fall ≠ a_arrangement) :
    FnOk P w K mg base CX0 6 f fd ["way", "thing"] (spTold68 K) := by
  have gc_WorthError := T.gE
  have eD := PySem.W.exm_ref T.ebc T.ehd T.ety T.sD
  have eB := PySem.W.exm_ref T.ebc T.ehd T.ety T.sB
  have r_thread : RelV (.ref a_thread) (.ref a_thread) := rfl
  have r_sign : RelV (.ref a_sign) (.ref a_sign) := rfl
  have r_longest_fall : RelV (.ref a_longest_fall) (.ref a_longest_fall) := rfl
  have r_arrangement : RelV (.ref a_arrangement) (.ref a_arrangement) := rfl
  let S4 : Addr → Option Sp := fun g => if g = a_thread then some (spThreadE K CD CB) else if g = a_sign then some (spSignE K CD CB) else if g = a_longest_fall then some (spLongE K CD CB) else if g = a_arrangement then some (spArrE CD CB) else none
  have A4 : ∀ g sp, S4 g = some sp → HeldX P w K mg base (L2N.CX P w) 5 g sp := fun g sp h => by
    by_cases c0 : g = a_thread
    · subst c0
      obtain rfl := Option.some.inj ((if_pos rfl).symm.trans h)
      exact ⟨_, _, G_thread.mono (by decide), k_thread, b_thread⟩
    replace h := (if_neg c0).symm.trans h
    by_cases c1 : g = a_sign
    · subst c1
      obtain rfl := Option.some.inj ((if_pos rfl).symm.trans h)
      exact ⟨_, _, G_sign.mono (by decide), k_sign, b_sign⟩
    replace h := (if_neg c1).symm.trans h
    by_cases c2 : g = a_longest_fall
    · subst c2
      obtain rfl := Option.some.inj ((if_pos rfl).symm.trans h)
      exact ⟨_, _, G_longest_fall.mono (by decide), k_longest_fall, b_longest_fall⟩
    replace h := (if_neg c2).symm.trans h
    by_cases c3 : g = a_arrangement
    · subst c3
      obtain rfl := Option.some.inj ((if_pos rfl).symm.trans h)
      exact ⟨_, _, G_arrangement, k_arrangement, b_arrangement⟩
    exact nomatch (if_neg c3).symm.trans h
  have e0 : S4 a_thread = some (spThreadE K CD CB) := if_pos rfl
  have e1 : S4 a_sign = some (spSignE K CD CB) := (if_neg (Ne.symm n_thread_sign)).trans (if_pos rfl)
  have e2 : S4 a_longest_fall = some (spLongE K CD CB) := (if_neg (Ne.symm n_thread_longest_fall)).trans ((if_neg (Ne.symm n_sign_longest_fall)).trans (if_pos rfl))
  have e3 : S4 a_arrangement = some (spArrE CD CB) := (if_neg (Ne.symm n_thread_arrangement)).trans ((if_neg (Ne.symm n_sign_arrangement)).trans ((if_neg (Ne.symm n_longest_fall_arrangement)).trans (if_pos rfl)))
  refine F.ok sc_law_told (fun vs H Q E h => ?_) (fun cdv A outer s H vs Q E hr1 h => ?_)
  · obtain ⟨way, v, rfl, _⟩ := h
    rfl
  · obtain ⟨way, v, rfl, q⟩ := h
    refine ⟨_, (pss_one (L2N.ps_try_as (i := 2) (Wout := fun _ _ _ _ => False) rfl rfl sc_law_told.nd rfl rfl ⟨rfl, by decide, .inl gc_WorthError⟩ takes0N (fun W pn xe tk _ => by exact (pss_one (ps_ret (pe_callE (S := S4) (pe_ix (ix_listK (K := K) rfl) (pe_lst (pa_cons (pe_glob rfl g_thread r_thread) (pa_cons (pe_glob rfl g_sign r_sign) (pa_cons (pe_glob rfl g_longest_fall r_longest_fall) (pa_cons (pe_glob rfl g_arrangement r_arrangement) pa_nil))))) (pv 0) (fun _ _ => rfl)) A4 (hr1.mono (by decide)) (fun σ => L2N.passAt tk σ) (pa_cons (pv 1) pa_nil))))) (fun ax oe cls dx pn hz hf => by exact (pss_one (ps_ret (pe_callX1 G_law_kind (hr1.mono (by decide)) hz hf rfl g_law_kind k_law_kind b_law_kind (pa_cons (pv 2) pa_nil))))))), ?_⟩
    refine ⟨(by show 4 ≤ sizeLine; decide), fun g ng => ?_⟩
    have hg : upd H g (.lst [.ref a_thread, .ref a_sign, .ref a_longest_fall, .ref a_arrangement]) g = some (.lst [.ref a_thread, .ref a_sign, .ref a_longest_fall, .ref a_arrangement]) := upd_same
    have sg := same_upd (o := .lst [.ref a_thread, .ref a_sign, .ref a_longest_fall, .ref a_arrangement]) ng
    rcases q with ⟨a, p, rfl, ha, hp, q⟩ | ⟨rfl, n, m, bs, hv, dok, qn, qy⟩
    · rcases q with ⟨rfl, qn, qy⟩ | ⟨rfl, qn, qy⟩ | ⟨rfl, qn, qy⟩
      · refine ⟨_, rfl, g, _, _, .ref a_thread, rfl, rfl, .inl (.inl hg), atI_nat (j := 0) rfl, a_thread, _, rfl, e0, _, rfl, a, p, rfl, sqT_same sg ha, hp, fun na H' s' => ⟨true, eD, fun _ ax _ => ⟨_, rfl, ⟨_, _, rfl, rfl, rfl, T.kD, fun H2 s2 => qn na H2 (Same.trans sg (Same.trans s' s2))⟩⟩, fun z => nomatch z⟩, fun ya => ⟨fun l5 H' s' => ⟨true, eB, fun _ ax _ => ⟨_, rfl, ⟨_, _, rfl, rfl, rfl, T.kB, fun H2 s2 => (qy ya).1 l5 H2 (Same.trans sg (Same.trans s' s2))⟩⟩, fun z => nomatch z⟩, fun l5 v H' s' dv => (qy ya).2 l5 v H' (Same.trans sg s') dv⟩⟩
      · refine ⟨_, rfl, g, _, _, .ref a_sign, rfl, rfl, .inl (.inl hg), atI_nat (j := 1) rfl, a_sign, _, rfl, e1, _, rfl, a, p, rfl, sqT_same sg ha, hp, fun na H' s' => ⟨true, eD, fun _ ax _ => ⟨_, rfl, ⟨_, _, rfl, rfl, rfl, T.kD, fun H2 s2 => qn na H2 (Same.trans sg (Same.trans s' s2))⟩⟩, fun z => nomatch z⟩, fun ya => ⟨fun l5 H' s' => ⟨true, eB, fun _ ax _ => ⟨_, rfl, ⟨_, _, rfl, rfl, rfl, T.kB, fun H2 s2 => (qy ya).1 l5 H2 (Same.trans sg (Same.trans s' s2))⟩⟩, fun z => nomatch z⟩, fun l5 H' s' => (qy ya).2 l5 H' (Same.trans sg s')⟩⟩
      · refine ⟨_, rfl, g, _, _, .ref a_longest_fall, rfl, rfl, .inl (.inl hg), atI_nat (j := 2) rfl, a_longest_fall, _, rfl, e2, _, rfl, a, p, rfl, sqT_same sg ha, hp, fun na H' s' => ⟨true, eD, fun _ ax _ => ⟨_, rfl, ⟨_, _, rfl, rfl, rfl, T.kD, fun H2 s2 => qn na H2 (Same.trans sg (Same.trans s' s2))⟩⟩, fun z => nomatch z⟩, fun ya => ⟨fun l5 H' s' => ⟨true, eB, fun _ ax _ => ⟨_, rfl, ⟨_, _, rfl, rfl, rfl, T.kB, fun H2 s2 => (qy ya).1 l5 H2 (Same.trans sg (Same.trans s' s2))⟩⟩, fun z => nomatch z⟩, fun l5 t H' s' ht => (qy ya).2 l5 t H' (Same.trans sg s') ht⟩⟩
    · refine ⟨_, rfl, g, _, _, .ref a_arrangement, rfl, rfl, .inl (.inl hg), atI_nat (j := 3) rfl, a_arrangement, _, rfl, e3, _, rfl, v, n, m, bs, rfl, hv.same sg, dok, fun na H' s' => ⟨true, eD, fun _ ax _ => ⟨_, rfl, ⟨_, _, rfl, rfl, rfl, T.kD, fun H2 s2 => qn na H2 (Same.trans sg (Same.trans s' s2))⟩⟩, fun z => nomatch z⟩, fun ya => ⟨fun nf H' s' => ⟨true, eB, fun _ ax _ => ⟨_, rfl, ⟨_, _, rfl, rfl, rfl, T.kB, fun H2 s2 => (qy ya).1 nf H2 (Same.trans sg (Same.trans s' s2))⟩⟩, fun z => nomatch z⟩, fun yf t H' s' ht => (qy ya).2 yf t H' (Same.trans sg s') ht⟩⟩
end

/-! ### what the law asks: its data -/
theorem lt_dL (x y : List Int) : PySem.W.dataLt (dL x) (dL y) = decide (x < y) := by
  show PySem.W.dataLt (.list (x.map .int)) (.list (y.map .int)) = _
  rw [PySem.W.dataLt_list]
  exact PySem.W.dataLt_ints x y
theorem minD_dL : ∀ (bs : List (List Int)) (b : List Int), PySem.W.minD (dL b) (bs.map dL) = dL (minI b bs)
  | [], b => rfl
  | y :: bs, b => by
    show PySem.W.minD (if PySem.W.dataLt (dL y) (dL b) = true then dL y else dL b) (bs.map dL) = dL (minI (if decide (y < b) = true then y else b) bs)
    rw [lt_dL]
    by_cases c : decide (y < b) = true
    · rw [if_pos c, if_pos c]
      exact minD_dL bs y
    · rw [if_neg c, if_neg c]
      exact minD_dL bs b
theorem map_int_inj : ∀ {x y : List Int}, x.map PyData.int = y.map PyData.int → x = y
  | [], [], _ => rfl
  | [], _ :: _, h => nomatch h
  | _ :: _, [], h => nomatch h
  | a :: x, b :: y, h => by
    obtain ⟨h1, h2⟩ := List.cons.inj (show PyData.int a :: x.map PyData.int = PyData.int b :: y.map PyData.int from h)
    rw [PyData.int.inj h1, map_int_inj h2]
theorem dL_inj {x y : List Int} (h : dL x = dL y) : x = y := map_int_inj (PyData.list.inj h)
theorem alikeAll_dLs (bs : List (List Int)) : PySem.W.AlikeAll (bs.map dL) := by
  refine ⟨fun x hx y hy => ?_, fun x hx => ?_⟩
  · obtain ⟨b, _, rfl⟩ := List.mem_map.mp hx
    obtain ⟨b', _, rfl⟩ := List.mem_map.mp hy
    show PySem.W.alike (.list (b.map .int)) (.list (b'.map .int)) = true
    rw [PySem.W.alike]
    exact PySem.W.alike_ints b b'
  · obtain ⟨b, _, rfl⟩ := List.mem_map.mp hx
    exact fun z => nomatch z
theorem lay_dL (b : List Int) : (dL b).depth ≤ 60 ∧ (dL b).canLay0 = true := by
  obtain ⟨h1, h2⟩ := lay_ints b
  unfold dL
  refine ⟨?_, by simp [PyData.canLay0, h1]⟩
  rw [show PyData.depth (.list (b.map PyData.int)) = 1 by simp [PyData.depth, h2]]
  decide
/-- what stays through the law -/
structure K6 (H : Hp) (r pa : Addr) (v : V) (p ds : List Int) : Prop where
  hr : H r = some (.lst (ds.map V.int))
  hp : ∃ o : Obj, o.dict = none ∧ H pa = some (.frz o (.tup (p.map V.int)))
  dg : DgAt H v (p.length : Int) (p.length : Int) (ixs p.length ++ invP p)
theorem K6.same {H H' : Hp} {r pa : Addr} {v : V} {p ds : List Int} (s : Same H H') (h : K6 H r pa v p ds) : K6 H' r pa v p ds := ⟨s _ _ h.hr, let ⟨o, d, e⟩ := h.hp; ⟨o, d, s _ _ e⟩, h.dg.same s⟩
theorem K6.next {H : Hp} {r pa : Addr} {v : V} {p ds ds' : List Int} (h : K6 H r pa v p ds) : K6 (upd H r (.lst (ds'.map V.int))) r pa v p ds' := by
  refine ⟨upd_same, ?_, h.dg.butL h.hr SameBut.upd⟩
  obtain ⟨o, d, h1⟩ := h.hp
  have ne : pa ≠ r := fun e => by
    rw [e, h.hr] at h1
    exact nomatch h1
  exact ⟨o, d, SameBut.upd _ _ ne h1⟩
def oddL : List (List Int) := [[0, 0], [1], [1, 2], [0, 2], [0, 1, 1], [-1, 0]]
theorem odd_not : ∀ z ∈ oddL, ¬ IsArr z ∧ z.length ≤ 20 := by
  unfold IsArr
  decide
theorem smL_dT {z : List Int} {B : Nat} (h : ∀ x ∈ z, x.natAbs < 2 ^ 200) (hB : z.length ≤ B) : SmL 1 (1923 * B + 3) (dT z) := by
  have e := smL_tuple (ds := z.map PyData.int) (n := 0) (k := 1921) fun D hD => by
    obtain ⟨a, ha, rfl⟩ := List.mem_map.mp hD
    exact smL_int (h a ha)
  rw [List.length_map] at e
  exact e.more (by show 1923 * z.length + 3 ≤ 1923 * B + 3; omega)
theorem rg_few : ∀ k, k < 5 → (rgR k).length ≤ 5000 := by decide
theorem rg_ne : ∀ n, n < 3 → ∀ m, m < 3 → ((rgR (n + m)).map blocksOf).filter (inFam "parts" (n : Int)) ≠ [] := by decide +kernel
theorem bad_00 : ¬ IsDg 1 1 [[0, 0]] := fun h => by
  have := h.pm
  revert this
  decide
theorem told_bad {K : PySem.W.Frag} {way : Int} {a : Addr} {p : List Int} {H : Hp} {Q : VK} {E : Value → Option Addr → Hp → Prop} (hw : way = 0 ∨ way = 1 ∨ way = 2) (ha : SqT K H a (p.map V.int)) (hl : p.length ≤ 20)
    (h1 : ¬ IsArr p → ∀ H', Same H H' → Q (.str "!diagram") H') (h2 : IsArr p → 5 < p.length ∧ ∀ H', Same H H' → Q (.str "!number") H') : spTold68 K [.int way, .ref a] H Q E := by
  have t : ∀ R : Prop, TellP p H Q R := fun R => ⟨h1, fun ia => ⟨fun _ => (h2 ia).2, fun l => absurd (h2 ia).1 (by omega)⟩⟩
  refine ⟨way, .ref a, rfl, .inl ⟨a, p, rfl, ha, hl, ?_⟩⟩
  rcases hw with rfl | rfl | rfl
  · exact .inl ⟨rfl, t _⟩
  · exact .inr (.inl ⟨rfl, t _⟩)
  · exact .inr (.inr ⟨rfl, t _⟩)
theorem smL_sN : SmL 1 4000 (.str "!number") := ⟨by simp [PyData.canLay0, show PyData.strOk "!number" = true by decide +kernel], by simp [PyData.depth], by simp [PyData.showable], by simp only [wt]; exact Nat.le_of_lt (show (reprText "!number").length < 4000 by decide +kernel)⟩

/-! ### the law -/
section
variable {P : Program} {w : World} {K : PySem.W.Frag} {mg : Str → Option Value} {base : Heap}
def spLaw (K : PySem.W.Frag) : Sp := fun vs H Q _ => ∃ (a : Addr) (ns : List Int), vs = [.ref a] ∧ SqL K H a (ns.map V.int) ∧ ns.length ≤ 63 ∧ ∀ H', Q (.bl true) H'
theorem ok_law {f CB CD : Addr} {fd : FuncData} (F : Fun K "law" "law" s_law f fd) (z_int : mg "int" = none) (z_range : mg "range" = none) (z_repr : mg "repr" = none) (z_len : mg "len" = none) (z_min : mg "min" = none) (z_tuple : mg "tuple" = none)
    {a_law_draws : Addr} {fd_law_draws : FuncData} (G_law_draws : FnOk P w K mg base CX0 2 a_law_draws fd_law_draws ["script"] (spDraws K)) (g_law_draws : mg "_law_draws" = some (.ref a_law_draws)) (k_law_draws : PySem.W.keepIn K (.ref a_law_draws) = true) (b_law_draws : Binds K fd_law_draws ["script"] [])
    {a_law_next : Addr} {fd_law_next : FuncData} (G_law_next : FnOk P w K mg base CX0 1 a_law_next fd_law_next ["draws"] spNext) (g_law_next : mg "_law_next" = some (.ref a_law_next)) (k_law_next : PySem.W.keepIn K (.ref a_law_next) = true) (b_law_next : Binds K fd_law_next ["draws"] [])
    {a_law_places : Addr} {fd_law_places : FuncData} (G_law_places : FnOk P w K mg base CX0 2 a_law_places fd_law_places ["draws", "most"] spPlaces68) (g_law_places : mg "_law_places" = some (.ref a_law_places)) (k_law_places : PySem.W.keepIn K (.ref a_law_places) = true) (b_law_places : Binds K fd_law_places ["draws", "most"] [])
    {a_law_thread : Addr} {fd_law_thread : FuncData} (G_law_thread : FnOk P w K mg base CX0 1 a_law_thread fd_law_thread ["places"] (spLThread K)) (g_law_thread : mg "_law_thread" = some (.ref a_law_thread)) (k_law_thread : PySem.W.keepIn K (.ref a_law_thread) = true) (b_law_thread : Binds K fd_law_thread ["places"] [])
    {a_law_told : Addr} {fd_law_told : FuncData} (G_law_told : FnOk P w K mg base CX0 6 a_law_told fd_law_told ["way", "thing"] (spTold68 K)) (g_law_told : mg "_law_told" = some (.ref a_law_told)) (k_law_told : PySem.W.keepIn K (.ref a_law_told) = true) (b_law_told : Binds K fd_law_told ["way", "thing"] [])
    {a_law_descents : Addr} {fd_law_descents : FuncData} (G_law_descents : FnOk P w K mg base CX0 1 a_law_descents fd_law_descents ["places"] (spLDes K)) (g_law_descents : mg "_law_descents" = some (.ref a_law_descents)) (k_law_descents : PySem.W.keepIn K (.ref a_law_descents) = true) (b_law_descents : Binds K fd_law_descents ["places"] [])
    {a_law_depth : Addr} {fd_law_depth : FuncData} (G_law_depth : FnOk P w K mg base CX0 2 a_law_depth fd_law_depth ["places"] (spLDepth K)) (g_law_depth : mg "_law_depth" = some (.ref a_law_depth)) (k_law_depth : PySem.W.keepIn K (.ref a_law_depth) = true) (b_law_depth : Binds K fd_law_depth ["places"] [])
    {a_law_falls : Addr} {fd_law_falls : FuncData} (G_law_falls : FnOk P w K mg base CX0 1 a_law_falls fd_law_falls ["places"] (spLFalls K)) (g_law_falls : mg "_law_falls" = some (.ref a_law_falls)) (k_law_falls : PySem.W.keepIn K (.ref a_law_falls) = true) (b_law_falls : Binds K fd_law_falls ["places"] [])
    {a_longest_fall : Addr} {fd_longest_fall : FuncData} (G_longest_fall : FnOk P w K mg base (L2N.CX P w) 3 a_longest_fall fd_longest_fall ["places"] (spLongE K CD CB)) (g_longest_fall : mg "longest_fall" = some (.ref a_longest_fall)) (k_longest_fall : PySem.W.keepIn K (.ref a_longest_fall) = true) (b_longest_fall : Binds K fd_longest_fall ["places"] [])
    {a_sign : Addr} {fd_sign : FuncData} (G_sign : FnOk P w K mg base (L2N.CX P w) 3 a_sign fd_sign ["places"] (spSignE K CD CB)) (g_sign : mg "sign" = some (.ref a_sign)) (k_sign : PySem.W.keepIn K (.ref a_sign) = true) (b_sign : Binds K fd_sign ["places"] [])
    {a_law_all : Addr} {fd_law_all : FuncData} (G_law_all : FnOk P w K mg base CX0 2 a_law_all fd_law_all ["family", "n", "m"] spAll) (g_law_all : mg "_law_all" = some (.ref a_law_all)) (k_law_all : PySem.W.keepIn K (.ref a_law_all) = true) (b_law_all : Binds K fd_law_all ["family", "n", "m"] [])
    {a_law_belongs : Addr} {fd_law_belongs : FuncData} (G_law_belongs : FnOk P w K mg base CX0 1 a_law_belongs fd_law_belongs ["family", "diagram"] spBelongs) (g_law_belongs : mg "_law_belongs" = some (.ref a_law_belongs)) (k_law_belongs : PySem.W.keepIn K (.ref a_law_belongs) = true) (b_law_belongs : Binds K fd_law_belongs ["family", "diagram"] []) :
    FnG P w K mg base 8 f fd ["script"] (spLaw K) := by
  refine F.okG sc_law (fun vs H Q E h => ?_) (fun cdv A outer s H vs Q E hgu hr h => ?_)
  · obtain ⟨a, ns, rfl, _⟩ := h
    rfl
  · obtain ⟨sc, ns, rfl, hS, hlen, q⟩ := h
    refine ⟨_, (pss_cons (ps_set (i := 1) sc_law.nd rfl (.inl rfl) (pe_call G_law_draws (hr.mono (by decide)) rfl g_law_draws k_law_draws b_law_draws .nil pass0 (pa_cons (pv 0) pa_nil)))
  (pss_cons (ps_expr (pe_bm0 PySem.F.plainAttrs_list PySem.F.slot_list_reverse PySem.F.type_list_reverse mt_reverse (pv 1)))
  (pss_cons (ps_set (i := 2) sc_law.nd rfl (.inr rfl) (pe_call G_law_places (hr.mono (by decide)) rfl g_law_places k_law_places b_law_places .nil pass0 (pa_cons (pv 1) (pa_cons pe_int pa_nil))))
  (pss_cons (ps_set (i := 3) sc_law.nd rfl (.inl rfl) (pe_call G_law_thread (hr.mono (by decide)) rfl g_law_thread k_law_thread b_law_thread .nil pass0 (pa_cons (pv 2) pa_nil)))
  (Evl.pss_cut (ps_if (L2.PW.pt (pw_or (pt_cmpR op_ne (pe_callB (cr_reprD hgu (room65 hr)) (by rfl) z_repr boot_repr (pa_cons (pe_call G_law_told (hr.mono (by decide)) rfl g_law_told k_law_told b_law_told .nil pass0 (pa_cons pe_int (pa_cons (pv 2) pa_nil))) pa_nil)) (pe_callB (cr_reprD hgu (room65 hr)) (by rfl) z_repr boot_repr (pa_cons (pv 3) pa_nil)) (nomark _)) (pw_or1 (pt_cmpR op_ne (pe_callB (cr_reprD hgu (room65 hr)) (by rfl) z_repr boot_repr (pa_cons (pe_call G_law_told (hr.mono (by decide)) rfl g_law_told k_law_told b_law_told .nil pass0 (pa_cons pe_int (pa_cons (pv 3) pa_nil))) pa_nil)) (pe_callB (cr_reprD hgu (room65 hr)) (by rfl) z_repr boot_repr (pa_cons (pv 2) pa_nil)) (nomark _))))) (pss_one (ps_ret pe_bl)) pss_nil)
  (Evl.pss_cut (ps_if (pt_cmpR op_ne (pe_callB (cr_reprD hgu (room65 hr)) (by rfl) z_repr boot_repr (pa_cons (pe_call G_law_told (hr.mono (by decide)) rfl g_law_told k_law_told b_law_told .nil pass0 (pa_cons pe_int (pa_cons (pv 2) pa_nil))) pa_nil)) (pe_callB (cr_reprD hgu (room65 hr)) (by rfl) z_repr boot_repr (pa_cons (pe_op op_sub pe_int (pe_op op_mul pe_int (pe_op op_mod (pe_callTy call_int1 (by rfl) z_int boot_int (pa_cons (pe_call G_law_descents (hr.mono (by decide)) rfl g_law_descents k_law_descents b_law_descents .nil pass0 (pa_cons (pv 2) pa_nil)) pa_nil)) pe_int))) pa_nil)) (nomark _)) (pss_one (ps_ret pe_bl)) pss_nil)
  (Evl.pss_cut (ps_set (i := 4) sc_law.nd rfl (.inr rfl) (pe_call G_law_depth (hr.mono (by decide)) rfl g_law_depth k_law_depth b_law_depth .nil pass0 (pa_cons (pv 2) pa_nil)))
  (Evl.pss_cut (ps_set (i := 5) sc_law.nd rfl (.inl rfl) (pe_callB (cr_minG rfl (room64 hr)) (by rfl) z_min boot_min (pa_cons (pe_lc (own := [("fall", 11)]) rfl sc_law.nd (pi_list (pe_call G_law_falls (hr.mono (by decide)) rfl g_law_falls k_law_falls b_law_falls .nil pass0 (pa_cons (pv 2) pa_nil))) (blkOk_by (N := ["script", "draws", "places", "diagram", "depth", "due", "back", "some", "other", "strange", "way", "fall", "at"]) (sc := defScope s_law) (by first | decide +kernel | rfl)) (fun _ _ _ _ _ => (pg_name (i := 11) sc_law.nd rfl (.inl rfl))) (fun _ _ _ _ _ => pts_one (pt_cmpR op_eq (pe_callB (call_len_seqK (K := K) rfl) (by rfl) z_len boot_len (pa_cons (pv 11) pa_nil)) (pv 4) (nomark _))) (fun _ _ _ _ _ => (pv 11))) pa_nil)))
  (Evl.pss_cut (ps_set (i := 6) sc_law.nd rfl (.inl rfl) (pe_callTy call_tuple_of (by rfl) z_tuple boot_tuple (pa_cons (pe_lc (own := [("at", 12)]) rfl sc_law.nd (pi_range1 rfl z_range (pa_cons (pe_callB call_len_seq (by rfl) z_len boot_len (pa_cons (pv 2) pa_nil)) pa_nil)) (blkOk_by (N := ["script", "draws", "places", "diagram", "depth", "due", "back", "some", "other", "strange", "way", "fall", "at"]) (sc := defScope s_law) (by first | decide +kernel | rfl)) (fun _ _ _ _ _ => (pg_name (i := 12) sc_law.nd rfl (.inl rfl))) (fun _ _ _ _ _ => pts_nil) (fun _ _ _ _ _ => (L2.pe_tindexK (K := K) rfl (pv 2) (pa_cons (pv 12) pa_nil)))) pa_nil)))
  (Evl.pss_cut (ps_if (L2.PW.pt (pw_or (pt_cmpR op_ne (pe_callB (cr_reprD hgu (room65 hr)) (by rfl) z_repr boot_repr (pa_cons (pe_call G_law_told (hr.mono (by decide)) rfl g_law_told k_law_told b_law_told .nil pass0 (pa_cons pe_int (pa_cons (pv 2) pa_nil))) pa_nil)) (pe_callB (cr_reprD hgu (room65 hr)) (by rfl) z_repr boot_repr (pa_cons (pv 5) pa_nil)) (nomark _)) (pw_or (pt_cmpR op_ne (pe_callB call_len_seq (by rfl) z_len boot_len (pa_cons (pe_call G_longest_fall (hr.mono (by decide)) rfl g_longest_fall k_longest_fall b_longest_fall .nil passLN (pa_cons (pv 6) pa_nil)) pa_nil)) (pv 4) (nomark _)) (pw_or1 (pt_cmpR op_ne (pe_call G_sign (hr.mono (by decide)) rfl g_sign k_sign b_sign .nil passLN (pa_cons (pv 6) pa_nil)) (pe_call G_sign (hr.mono (by decide)) rfl g_sign k_sign b_sign .nil passLN (pa_cons (pv 2) pa_nil)) (nomark _)))))) (pss_one (ps_ret pe_bl)) pss_nil)
  (Evl.pss_cut (ps_set (i := 7) sc_law.nd rfl (.inl rfl) (pe_call G_law_all (hr.mono (by decide)) rfl g_law_all k_law_all b_law_all .nil pass0 (pa_cons pe_str (pa_cons (pe_op op_mod (pe_callTy call_int1 (by rfl) z_int boot_int (pa_cons (pe_call G_law_next (hr.mono (by decide)) rfl g_law_next k_law_next b_law_next .nil pass0 (pa_cons (pv 1) pa_nil)) pa_nil)) pe_int) (pa_cons (pe_op op_mod (pe_callTy call_int1 (by rfl) z_int boot_int (pa_cons (pe_call G_law_next (hr.mono (by decide)) rfl g_law_next k_law_next b_law_next .nil pass0 (pa_cons (pv 1) pa_nil)) pa_nil)) pe_int) pa_nil)))))
  (Evl.pss_cut (ps_set (i := 8) sc_law.nd rfl (.inl rfl) (pe_ix ix_list (pv 7) (pe_op op_mod (pe_callTy call_int1 (by rfl) z_int boot_int (pa_cons (pe_call G_law_next (hr.mono (by decide)) rfl g_law_next k_law_next b_law_next .nil pass0 (pa_cons (pv 1) pa_nil)) pa_nil)) (pe_callB (call_len_seqK (K := K) rfl) (by rfl) z_len boot_len (pa_cons (pv 7) pa_nil))) (fun _ _ => rfl)))
  (Evl.pss_cut (ps_if (pt_cmpR op_ne (pe_callB (cr_reprD hgu (room65 hr)) (by rfl) z_repr boot_repr (pa_cons (pe_call G_law_belongs (hr.mono (by decide)) rfl g_law_belongs k_law_belongs b_law_belongs .nil pass0 (pa_cons pe_str (pa_cons (pv 8) pa_nil))) pa_nil)) (pe_callB (cr_reprD hgu (room65 hr)) (by rfl) z_repr boot_repr (pa_cons (pe_cmpR (op_neD (room64 hr)) (pe_call G_law_told (hr.mono (by decide)) rfl g_law_told k_law_told b_law_told .nil pass0 (pa_cons pe_int (pa_cons (pv 8) pa_nil))) pe_str (nomark _)) pa_nil)) (nomark _)) (pss_one (ps_ret pe_bl)) pss_nil)
  (Evl.pss_cut (ps_set (i := 9) sc_law.nd rfl (.inl rfl) (pe_ix ix_list (pe_lst (pa_cons (pe_tup (pa_cons pe_int (pa_cons pe_int pa_nil))) (pa_cons (pe_tup (pa_cons pe_int pa_nil)) (pa_cons (pe_tup (pa_cons pe_int (pa_cons pe_int pa_nil))) (pa_cons (pe_tup (pa_cons pe_int (pa_cons pe_int pa_nil))) (pa_cons (pe_tup (pa_cons pe_int (pa_cons pe_int (pa_cons pe_int pa_nil)))) (pa_cons (pe_tup (pa_cons (pe_un un_neg pe_int) (pa_cons pe_int pa_nil))) pa_nil))))))) (pe_op op_mod (pe_callTy call_int1 (by rfl) z_int boot_int (pa_cons (pe_call G_law_next (hr.mono (by decide)) rfl g_law_next k_law_next b_law_next .nil pass0 (pa_cons (pv 1) pa_nil)) pa_nil)) pe_int) (fun _ _ => rfl)))
  (Evl.pss_cut (ps_for PassesOwn.never rfl (pi_range1 rfl z_range (pa_cons pe_int pa_nil)) (pg_name (i := 10) sc_law.nd rfl (.inl rfl)) (pss_cons (ps_if (L2.PW.pt (pw_or (pt_cmpR op_ne (pe_call G_law_told (hr.mono (by decide)) rfl g_law_told k_law_told b_law_told .nil pass0 (pa_cons (pv 10) (pa_cons (pv 9) pa_nil))) pe_str (nomark _)) (pw_or1 (pt_cmpR op_ne (pe_call G_law_told (hr.mono (by decide)) rfl g_law_told k_law_told b_law_told .nil pass0 (pa_cons (pv 10) (pa_cons (pe_tup (pa_cons pe_int (pa_cons pe_int (pa_cons pe_int (pa_cons pe_int (pa_cons pe_int (pa_cons pe_int pa_nil))))))) pa_nil))) pe_str (nomark _))))) (pss_one (ps_ret pe_bl)) pss_nil)
  (pss_one (ps_if (pt_cmpR op_ne (pe_call G_law_told (hr.mono (by decide)) rfl g_law_told k_law_told b_law_told .nil pass0 (pa_cons (pv 10) (pa_cons (pe_tup (pa_cons pe_int (pa_cons pe_int (pa_cons pe_int (pa_cons pe_int (pa_cons pe_int (pa_cons pe_int pa_nil))))))) pa_nil))) pe_str (nomark _)) (pss_one (ps_ret pe_bl)) pss_nil))))
  (pss_one (ps_ret (pe_cmpR op_eq (pe_call G_law_told (hr.mono (by decide)) rfl g_law_told k_law_told b_law_told .nil pass0 (pa_cons pe_int (pa_cons (pe_tup (pa_cons pe_int (pa_cons pe_int (pa_cons (pe_tup (pa_cons (pe_tup (pa_cons pe_int (pa_cons pe_int pa_nil))) pa_nil)) pa_nil)))) pa_nil))) pe_str (nomark _))))))))))))))))))), ?_⟩
    have szl : 20000 ≤ sizeLine := by decide
    have szb : 3000000 ≤ sizeLine := by decide
    refine ⟨_, rfl, sc, ns, rfl, hS, hlen, fun H1 r ds s1 nr hL => ?_⟩
    refine ⟨_, rfl, .inl ⟨rfl, _, .inl (.inl hL)⟩, r, _, rfl, rfl, hL, ?_⟩
    have hr1 : upd H1 r (.lst (ds.map V.int).reverse) r = some (.lst (ds.reverse.map V.int)) := by rw [upd_same, List.map_reverse]
    revert hr1
    generalize upd H1 r (.lst (ds.map V.int).reverse) = H2
    generalize ds.reverse = ds
    intro hr1
    clear hL s1 nr hS
    refine ⟨_, rfl, r, ds, 5, rfl, by decide, hr1, fun pa p ds1 H3 sb3 hr3 hp3 ia l5 => ?_⟩
    have f := fin_of ia l5
    have f2 := fin_of f.iv (by rw [f.il]; exact l5)
    have p20 : p.length ≤ 20 := by omega
    refine ⟨_, rfl, pa, p, rfl, .inl (let ⟨o, d, e⟩ := hp3; .inr ⟨o, e⟩), p20, fun v H4 s4 dv => ?_⟩
    have k6 : K6 H4 r pa v p ds1 := ⟨s4 _ _ hr3, let ⟨o, d, e⟩ := hp3; ⟨o, d, s4 _ _ e⟩, by rw [← f.th]; exact dv, siz_iff.mpr ⟨by omega, by omega, by omega, by omega, by omega⟩, by rw [List.length_append, ixs_len', f.il]; omega⟩
    clear hr3 hp3 dv s4 hr1 sb3
    have sq : ∀ {H' : Hp} {ds' : List Int}, K6 H' r pa v p ds' → SqT K H' pa (p.map V.int) := fun k => .inl (let ⟨o, d, e⟩ := k.hp; .inr ⟨o, e⟩)
    have smd := smL_dg k6.dg.dg
    refine ⟨fun σ H' => σ = [some (.ref sc), some (.ref r), some (.ref pa), some v, none, none, none, none, none, none, none, none, none] ∧ K6 H' r pa v p ds1, ?_, ?_⟩
    · refine ⟨_, rfl, 0, .ref pa, rfl, .inl ⟨pa, p, rfl, sq k6, p20, .inl ⟨rfl, fun na => absurd ia na, fun _ => ⟨fun l => absurd l (by omega), fun _ v2 H5 s5 dv2 => ?_⟩⟩⟩⟩
      have k5 := k6.same s5
      rw [f.th] at dv2
      refine ⟨v2, _, rfl, dv2.dp, smd.shaped (by decide), smd.sho, smd.wide (by decide), ?_⟩
      refine ⟨_, rfl, v, _, rfl, k5.dg.1.dp, smd.shaped (by decide), smd.sho, smd.wide (by decide), rfl, ?_⟩
      generalize PyData.shown _ = X
      refine ⟨_, rfl, if_neg_of (by rw [decide_eq_true rfl]; exact Bool.false_ne_true) ?_⟩
      clear X
      have ti : inFam "threads" (p.length : Int) (blocksOf (ixs p.length ++ invP p)) = true := by rw [← f.th]; exact f.ti
      have ar : belL (p.length : Int) (blocksOf (ixs p.length ++ invP p)) = p := by rw [← f.th]; exact f.ar
      refine ⟨_, rfl, 3, v, rfl, .inr ⟨rfl, _, _, _, k5.dg.1, k5.dg.ok, fun nd => absurd k5.dg.dg nd, fun _ => ⟨fun nf => (nomatch ti.symm.trans nf), fun _ t H6 s6 ht => ?_⟩⟩⟩
      rw [ar] at ht
      have k6 := k5.same s6
      have smp : SmL 1 (1923 * 5 + 3) (dT p) := smL_dT (fun x hx => Nat.lt_of_le_of_lt (show x.natAbs ≤ 5 by have := arr_in ia x hx; omega) (by decide)) l5
      refine ⟨.ref t, _, rfl, ht.dp, smp.shaped (by decide), smp.sho, smp.wide (by decide), ?_⟩
      refine ⟨_, rfl, .ref pa, dT p, rfl, Dp.tup (sq k6) (ints_dp p), smp.shaped (by decide), smp.sho, smp.wide (by decide), rfl, ?_⟩
      generalize PyData.shown _ = X
      exact ⟨_, rfl, if_neg_of (by rw [decide_eq_true rfl]; exact Bool.false_ne_true) ⟨rfl, k6⟩⟩
    clear k6
    rintro σ H5 ⟨rfl, k6⟩
    refine ⟨fun σ H' => σ = [some (.ref sc), some (.ref r), some (.ref pa), some v, none, none, none, none, none, none, none, none, none] ∧ K6 H' r pa v p ds1, ?_, ?_⟩
    · refine ⟨_, rfl, 1, .ref pa, rfl, .inl ⟨pa, p, rfl, sq k6, p20, .inr (.inl ⟨rfl, fun na => absurd ia na, fun _ => ⟨fun l => absurd l (by omega), fun _ H6 s6 => ?_⟩⟩)⟩⟩
      have k5 := k6.same s6
      have sms : SmL 0 1921 (.int (sgn p)) := smL_int (Nat.lt_of_le_of_lt (show (sgn p).natAbs ≤ 2 by have := f.sl; omega) (by decide))
      refine ⟨_, _, rfl, .int (sgn p), sms.shaped (by decide), sms.sho, sms.wide (by decide), ?_⟩
      refine ⟨_, rfl, pa, p, rfl, sq k5, p20, fun H7 s7 => ?_⟩
      refine .inl ⟨_, rfl, _, 2, rfl, rfl, (by decide : (0 : Int) < 2), 2, _, rfl, rfl, .inl ⟨by decide, by decide⟩, 1, _, rfl, rfl, ?_⟩
      dsimp only
      rw [← f.sl]
      refine ⟨_, _, rfl, .int (sgn p), sms.shaped (by decide), sms.sho, sms.wide (by decide), rfl, ?_⟩
      generalize PyData.shown _ = X
      exact ⟨_, rfl, if_neg_of (by rw [decide_eq_true rfl]; exact Bool.false_ne_true) ⟨rfl, k5.same s7⟩⟩
    clear k6
    rintro σ H6 ⟨rfl, k6⟩
    refine ⟨fun σ H' => σ = [some (.ref sc), some (.ref r), some (.ref pa), some v, some (.int (lawD p : Nat)), none, none, none, none, none, none, none, none] ∧ K6 H' r pa v p ds1, ?_, ?_⟩
    · exact ⟨_, rfl, pa, p, rfl, sq k6, l5, f.lf, fun H7 s7 => ⟨rfl, k6.same s7⟩⟩
    clear k6
    rintro σ H7 ⟨rfl, k6⟩
    refine ⟨fun σ H' => ∃ td, σ = [some (.ref sc), some (.ref r), some (.ref pa), some v, some (.int (lawD p : Nat)), some (.ref td), none, none, none, none, none, none, none] ∧ K6 H' r pa v p ds1 ∧ H' td = some (.lst ((lngF p).map V.int)), ?_, ?_⟩
    · refine ⟨_, rfl, pa, p, rfl, sq k6, l5, f.lf, fun L us H8 s8 hL pu => ?_⟩
      have k6 := k6.same s8
      refine ⟨L, rfl, ⟨_, .inl (.inl hL)⟩, fun D nD => ?_⟩
      have LD : L ≠ D := ne_of_none hL nD
      have kD : ∀ {H' : Hp}, SameBut D H8 H' → Same H8 H' := fun sb b o e => sb b o (ne_of_none e nD) e
      refine lc_list (xs := us) (fun i H' => SameBut D H8 H' ∧ ∃ ws, ws.length ≤ i ∧ H' D = some (.lst ws) ∧ Paired (LP H8) ws (((lawF p p.length).take i).filter fun f => decide (f.length = lawD p))) ⟨SameBut.upd, [], Nat.le_refl _, upd_same, .nil⟩ (fun i H' _ hP => .inl (.inl (hP.1 _ _ LD hL))) (fun i x H9 hx hP => ?_) (fun H9 hP => ?_)
      · obtain ⟨sb, ws, lw, hD, pw⟩ := hP
        obtain ⟨g, eg, ax, rfl, hax⟩ := paired_get pu hx
        have li := (List.getElem?_eq_some_iff.mp hx).1
        have lu := pu.length
        have := f.lf
        have et : ((lawF p p.length).take (i + 1)).filter (fun f => decide (f.length = lawD p)) = ((lawF p p.length).take i).filter (fun f => decide (f.length = lawD p)) ++ (if decide (g.length = lawD p) = true then [g] else []) := by
          rw [List.take_succ, eg, List.filter_append]
          show _ ++ List.filter _ [g] = _
          rw [List.filter_cons]
          rfl
        refine ⟨rfl, _, rfl, ax, _, rfl, .inl (.inl (.inl (kD sb _ _ hax))), _, rfl, rfl, _, rfl, ?_⟩
        rw [et, List.length_map]
        by_cases c : g.length = lawD p
        · rw [if_pos (decide_eq_true c), decide_eq_true (show V.int (g.length : Nat) = V.int (lawD p : Nat) by rw [c])]
          exact if_pos_of rfl ⟨_, rfl, ws, hD, by omega, sb.trans SameBut.upd, _, by rw [List.length_append]; show _ + 1 ≤ _; omega, upd_same, paired_add (F := LP H8) ⟨ax, rfl, hax⟩ pw⟩
        · rw [if_neg (fun z => c (of_decide_eq_true z)), List.append_nil, decide_eq_false (show ¬ V.int (g.length : Nat) = V.int (lawD p : Nat) from fun z => c (Int.ofNat.inj (V.int.inj z)))]
          exact if_neg_of Bool.false_ne_true ⟨sb, ws, by omega, hD, pw⟩
      · obtain ⟨sb, ws, lw, hD, pw⟩ := hP
        rw [pu.length, List.take_length] at pw
        obtain ⟨b, bs, edu, emin⟩ := f.du
        have pw : Paired (LP H8) ws (b :: bs) := by rw [← edu]; exact pw
        refine ⟨List Int, dL, D, ws, b, bs, rfl, .inl (.inl hD), fun x hx => ?_, Paired.mapP pw fun _ _ h => (h.same (kD sb)).dp, alikeAll_dLs _, fun b' _ => lay_dL b', fun i x c ex ec e => ?_⟩
        · obtain ⟨i, hi⟩ := List.getElem?_of_mem hx
          obtain ⟨_, _, t, e, _⟩ := paired_get pw hi
          exact ⟨t, e⟩
        · rw [minD_dL, emin] at e
          obtain rfl := dL_inj e
          obtain ⟨c2, ec2, t, rfl, ht⟩ := paired_get pw ex
          obtain rfl := Option.some.inj (ec.symm.trans ec2)
          exact ⟨t, rfl, k6.same (kD sb), kD sb _ _ ht⟩
    clear k6
    rintro σ H8 ⟨td, rfl, k6, htd⟩
    refine ⟨fun σ H' => ∃ tb, σ = [some (.ref sc), some (.ref r), some (.ref pa), some v, some (.int (lawD p : Nat)), some (.ref td), some (.ref tb), none, none, none, none, none, none] ∧ K6 H' r pa v p ds1 ∧ H' td = some (.lst ((lngF p).map V.int)) ∧ H' tb = some (.tup ((invP p).map V.int)), ?_, ?_⟩
    · refine ⟨_, rfl, pa, _, rfl, .inr (sq k6), ?_⟩
      rw [List.length_map]
      refine ⟨_, rfl, by omega, by omega, fun D nD => ?_⟩
      rw [show ((p.length : Nat) : Int).toNat = p.length from rfl]
      have kD : ∀ {H' : Hp}, SameBut D H8 H' → Same H8 H' := fun sb b o e => sb b o (ne_of_none e nD) e
      refine lc_range (lo := 0) (n := p.length) (fun i H' => SameBut D H8 H' ∧ H' D = some (.lst (((invP p).take i).map V.int))) ⟨SameBut.upd, upd_same⟩ (fun i H' hi hP => ?_) (fun H' hP => ?_)
      · obtain ⟨sb, hD⟩ := hP
        rw [show (0 : Int) + (i : Int) = (i : Int) from Int.zero_add _]
        have k9 := k6.same (kD sb)
        obtain ⟨o, od, ho⟩ := k9.hp
        have vi : (i : Int) ∈ p := ia.mem_iff.mpr (mem_ixs.mpr ⟨by omega, by omega⟩)
        have hj := List.idxOf_lt_length_of_mem vi
        have ej := List.getElem_idxOf hj
        have ndp : p.Nodup := ia.nodup_iff.mpr (ixs_nodup _)
        have gi : (invP p)[i]? = some ((p.idxOf (i : Int) : Nat) : Int) := by
          unfold invP
          rw [List.getElem?_map, show (ixs p.length)[i]? = some (i : Int) by unfold ixs; rw [List.getElem?_map, List.getElem?_range hi]; rfl]
          rfl
        refine ⟨rfl, _, rfl, ⟨pa, o, _, rfl, ho, od⟩, _, rfl, pa, p.map V.int, .int (i : Int), p.idxOf (i : Int), .int (i : Int), rfl, rfl, sq k9, rfl, flat_intM p, ?_, by simp [eqV], fun m z hm hz => ?_, _, hD, by rw [List.length_map, List.length_take]; omega, sb.trans SameBut.upd, ?_⟩
        · rw [List.getElem?_map, List.getElem?_eq_getElem hj, ej]
          rfl
        · rw [List.getElem?_map] at hz
          obtain ⟨b, hb, rfl⟩ := Option.map_eq_some_iff.mp hz
          have : b ≠ (i : Int) := fun e => by
            subst e
            obtain ⟨hi', e2⟩ := List.getElem?_eq_some_iff.mp hb
            have := List.pairwise_iff_getElem.mp ndp m _ hi' hj hm
            rw [e2, ej] at this
            exact this rfl
          simp [eqV, this]
        · rw [upd_same, List.take_succ, gi, List.map_append]
          rfl
      · obtain ⟨sb, hD⟩ := hP
        rw [← f.il, List.take_length] at hD
        refine ⟨D, _, rfl, .inl ⟨.inl (.inl hD), fun t nt => ?_⟩⟩
        have s9 := Same.trans (kD sb) (same_upd (o := .tup ((invP p).map V.int)) nt)
        exact ⟨t, rfl, k6.same s9, s9 _ _ htd, upd_same⟩
    clear k6 htd
    rintro σ H9 ⟨tb, rfl, k6, htd, htb⟩
    refine ⟨fun σ H' => σ = [some (.ref sc), some (.ref r), some (.ref pa), some v, some (.int (lawD p : Nat)), some (.ref td), some (.ref tb), none, none, none, none, none, none] ∧ K6 H' r pa v p ds1, ?_, ?_⟩
    · refine ⟨_, rfl, 2, .ref pa, rfl, .inl ⟨pa, p, rfl, sq k6, p20, .inr (.inr ⟨rfl, fun na => absurd ia na, fun _ => ⟨fun l => absurd l (by omega), fun _ t H10 s10 ht => ?_⟩⟩)⟩⟩
      have sml : SmL 1 (1923 * 5 + 3) (dL (lngF p)) := smL_dL (fun x hx => Nat.lt_of_le_of_lt (show x.natAbs ≤ 5 by have := f.lb x hx; omega) (by decide)) f.ll
      refine ⟨.ref t, _, rfl, LP.dp ⟨t, rfl, ht⟩, sml.shaped (by decide), sml.sho, sml.wide (by decide), ?_⟩
      refine ⟨_, rfl, .ref td, _, rfl, LP.dp ⟨td, rfl, s10 _ _ htd⟩, sml.shaped (by decide), sml.sho, sml.wide (by decide), rfl, ?_⟩
      generalize PyData.shown _ = X
      refine ⟨_, rfl, if_neg_of (by rw [decide_eq_true rfl]; exact Bool.false_ne_true) ?_⟩
      clear X
      have i5 : (invP p).length ≤ 5 := by rw [f.il]; exact l5
      refine ⟨_, rfl, tb, invP p, rfl, .inl (.inl (s10 _ _ htb)), by omega, fun na => absurd f.iv na, fun _ => ⟨fun l => absurd l (by omega), fun _ t2 H11 s11 ht2 => ?_⟩⟩
      refine ⟨t2, _, rfl, .inl (.inl (.inl ht2)), ?_⟩
      rw [List.length_map, f.l2]
      refine ⟨_, rfl, rfl, _, rfl, ite_same ?_⟩
      have k11 := (k6.same s10).same s11
      refine ⟨_, rfl, tb, invP p, rfl, .inl (.inl (s11 _ _ (s10 _ _ htb))), by omega, fun na => absurd f.iv na, fun _ => ⟨fun l => absurd l (by omega), fun _ H12 s12 => ?_⟩⟩
      have k12 := k11.same s12
      refine ⟨_, rfl, pa, p, rfl, sq k12, p20, fun na => absurd ia na, fun _ => ⟨fun l => absurd l (by omega), fun _ H13 s13 => ?_⟩⟩
      rw [f.sg]
      exact ⟨rfl, _, rfl, ite_same ⟨rfl, k12.same s13⟩⟩
    clear k6 htd htb
    rintro σ H10 ⟨rfl, k6⟩
    refine ⟨fun σ H' => ∃ (ts : Addr) (us : List V) (n m : Nat) (ds2 : List Int), σ = [some (.ref sc), some (.ref r), some (.ref pa), some v, some (.int (lawD p : Nat)), some (.ref td), some (.ref tb), some (.ref ts), none, none, none, none, none] ∧ H' r = some (.lst (ds2.map V.int)) ∧ n ≤ 2 ∧ m ≤ 2 ∧ H' ts = some (.lst us) ∧ Paired (fun v bs => DGv H' v n m bs) us (((rgR (n + m)).map blocksOf).filter (inFam "parts" n)), ?_, ?_⟩
    · refine ⟨_, rfl, r, ds1, rfl, k6.hr, fun n0 ds2 => .inl ⟨n0, rfl, n0, 3, rfl, rfl, (by decide : (0 : Int) < 3), _, rfl, r, ds2, rfl, upd_same, fun m0 ds3 => .inl ⟨m0, rfl, m0, 3, rfl, rfl, (by decide : (0 : Int) < 3), ?_⟩⟩⟩
      obtain ⟨n, hn, en⟩ : ∃ n : Nat, n ≤ 2 ∧ n0 % 3 = (n : Int) := ⟨(n0 % 3).toNat, by omega, by omega⟩
      obtain ⟨m, hm, em⟩ : ∃ m : Nat, m ≤ 2 ∧ m0 % 3 = (m : Int) := ⟨(m0 % 3).toNat, by omega, by omega⟩
      dsimp only
      rw [en, em]
      exact ⟨"parts", n, m, rfl, by decide, siz_iff.mpr ⟨by omega, by omega, by omega, by omega, by omega⟩, fun k hk => rg_few k (by omega), fun L us H11 s11 hL pu => ⟨L, us, n, m, ds3, rfl, s11 _ _ upd_same, hn, hm, hL, pu⟩⟩
    clear k6
    rintro σ H11 ⟨ts, us, n, m, ds2, rfl, hr, hn, hm, hts, pu⟩
    refine ⟨fun σ H' => ∃ (x : V) (n m : Nat) (row ds2 : List Int), σ = [some (.ref sc), some (.ref r), some (.ref pa), some v, some (.int (lawD p : Nat)), some (.ref td), some (.ref tb), some (.ref ts), some x, none, none, none, none] ∧ H' r = some (.lst (ds2.map V.int)) ∧ DgAt H' x n m row, ?_, ?_⟩
    · have une : us ≠ [] := fun e => by
        have := pu.length
        rw [e] at this
        exact rg_ne n (by omega) m (by omega) (List.length_eq_zero_iff.mp this.symm)
      have tr : ts ≠ r := fun e => by
        rw [e] at hts
        have e2 := HO.lst.inj (Option.some.inj (hts.symm.trans hr))
        cases us with
        | nil => exact une rfl
        | cons u us =>
          cases ds2 with
          | nil => exact nomatch e2
          | cons d ds2 =>
            obtain ⟨e3, _⟩ := List.cons.inj e2
            obtain ⟨_, _, ⟨_, _, e4, _⟩⟩ := paired_get pu (i := 0) rfl
            rw [e3] at e4
            exact nomatch e4
      have ul := List.length_pos_iff.mpr une
      refine ⟨_, rfl, _, rfl, r, ds2, rfl, hr, fun n0 ds3 => .inl ⟨n0, rfl, ?_⟩⟩
      have hts3 : upd H11 r (.lst (ds3.map V.int)) ts = some (.lst us) := by rw [upd_ne tr]; exact hts
      refine ⟨_, rfl, ts, us, rfl, .inl (.inl (.inl hts3)), n0, _, rfl, rfl, (show (0 : Int) < (us.length : Int) by omega), ?_⟩
      obtain ⟨j, hj, ej⟩ : ∃ j : Nat, j < us.length ∧ n0 % (us.length : Int) = (j : Int) := ⟨(n0 % (us.length : Int)).toNat, by
        have h1 := Int.emod_nonneg n0 (show (us.length : Int) ≠ 0 by omega)
        have h2 := Int.emod_lt_of_pos n0 (show (0 : Int) < (us.length : Int) by omega)
        omega, by
        have h1 := Int.emod_nonneg n0 (show (us.length : Int) ≠ 0 by omega)
        omega⟩
      dsimp only
      rw [ej]
      obtain ⟨x, ex⟩ : ∃ x, us[j]? = some x := ⟨_, List.getElem?_eq_getElem hj⟩
      obtain ⟨bs, eb, dv⟩ := paired_get pu ex
      obtain ⟨row, hrow, rfl⟩ := List.mem_map.mp (List.mem_filter.mp (List.mem_of_getElem? eb)).1
      obtain ⟨lr, _⟩ := rgR_ok hrow
      refine ⟨ts, us, _, x, rfl, rfl, .inl (.inl hts3), atI_nat (j := j) ex, ?_⟩
      exact ⟨x, n, m, row, ds3, rfl, upd_same, DGv.butL hr SameBut.upd dv, siz_iff.mpr ⟨by omega, by omega, by omega, by omega, by omega⟩, by rw [lr]; omega⟩
    clear hr hts pu
    rintro σ H12 ⟨x, n2, m2, row, ds3, rfl, hr, da⟩
    refine ⟨fun σ H' => σ = [some (.ref sc), some (.ref r), some (.ref pa), some v, some (.int (lawD p : Nat)), some (.ref td), some (.ref tb), some (.ref ts), some x, none, none, none, none] ∧ H' r = some (.lst (ds3.map V.int)), ?_, ?_⟩
    · have smn : SmL 1 4000 (.str "!number") := smL_sN
      refine ⟨_, rfl, "threads", x, n2, m2, blocksOf row, rfl, da.1, by decide, fun b hb => blocks_ne b hb, ?_⟩
      cases hB : inFam "threads" (n2 : Int) (blocksOf row)
      · refine ⟨_, .bool false, rfl, .bl false, (smL_bool false).shaped (by decide), (smL_bool false).sho, (smL_bool false).wide (by decide), ?_⟩
        refine ⟨_, rfl, 3, x, rfl, .inr ⟨rfl, n2, m2, _, da.1, da.ok, fun nd => absurd da.dg nd, fun _ => ⟨fun _ H13 s13 => ?_, fun yf => nomatch hB.symm.trans yf⟩⟩⟩
        refine ⟨.str "!number", .str "!number", .str _, .str _, smn.shaped (by decide), smn.shaped (by decide), ?_⟩
        rw [show (!PyData.eqv (.str "!number") (.str "!number")) = false by simp [PyData.eqv]]
        refine ⟨_, .bool false, rfl, .bl false, (smL_bool false).shaped (by decide), (smL_bool false).sho, (smL_bool false).wide (by decide), rfl, ?_⟩
        generalize PyData.shown _ = X
        exact ⟨_, rfl, if_neg_of (by rw [decide_eq_true rfl]; exact Bool.false_ne_true) ⟨rfl, s13 _ _ hr⟩⟩
      · refine ⟨_, .bool true, rfl, .bl true, (smL_bool true).shaped (by decide), (smL_bool true).sho, (smL_bool true).wide (by decide), ?_⟩
        refine ⟨_, rfl, 3, x, rfl, .inr ⟨rfl, n2, m2, _, da.1, da.ok, fun nd => absurd da.dg nd, fun _ => ⟨fun nf => (nomatch hB.symm.trans nf), fun _ t H13 s13 ht => ?_⟩⟩⟩
        refine ⟨dT (belL n2 (blocksOf row)), .str "!number", ht.dp, .str _, dT_shaped _, smn.shaped (by decide), ?_⟩
        rw [show (!PyData.eqv (dT (belL n2 (blocksOf row))) (.str "!number")) = true by simp [PyData.eqv, dT]]
        refine ⟨_, .bool true, rfl, .bl true, (smL_bool true).shaped (by decide), (smL_bool true).sho, (smL_bool true).wide (by decide), rfl, ?_⟩
        generalize PyData.shown _ = X
        exact ⟨_, rfl, if_neg_of (by rw [decide_eq_true rfl]; exact Bool.false_ne_true) ⟨rfl, s13 _ _ hr⟩⟩
    clear hr da
    rintro σ H13 ⟨rfl, hr⟩
    refine ⟨fun σ H' => ∃ (ps : Addr) (z : List Int), σ = [some (.ref sc), some (.ref r), some (.ref pa), some v, some (.int (lawD p : Nat)), some (.ref td), some (.ref tb), some (.ref ts), some x, some (.ref ps), none, none, none] ∧ H' ps = some (.tup (z.map V.int)) ∧ z ∈ oddL, ?_, ?_⟩
    · refine ⟨(by show 2 ≤ sizeLine; omega), fun p1 n1 => ⟨(by show 1 ≤ sizeLine; omega), fun p2 n2 => ⟨(by show 2 ≤ sizeLine; omega), fun p3 n3 => ⟨(by show 2 ≤ sizeLine; omega), fun p4 n4 => ⟨(by show 3 ≤ sizeLine; omega), fun p5 n5 => ⟨1, rfl, (by show 2 ≤ sizeLine; omega), fun p6 n6 => ⟨(by show 6 ≤ sizeLine; omega), fun p7 n7 => ?_⟩⟩⟩⟩⟩⟩⟩
      have w1 := same_upd (o := .tup [.int 0, .int 0]) n1
      have w2 := same_upd (o := .tup [.int 1]) n2
      have w3 := same_upd (o := .tup [.int 1, .int 2]) n3
      have w4 := same_upd (o := .tup [.int 0, .int 2]) n4
      have w5 := same_upd (o := .tup [.int 0, .int 1, .int 1]) n5
      have w6 := same_upd (o := .tup [.int (-1), .int 0]) n6
      have w7 := same_upd (o := .lst [.ref p1, .ref p2, .ref p3, .ref p4, .ref p5, .ref p6]) n7
      have w67 := Same.trans w6 w7
      have w57 := Same.trans w5 w67
      have w47 := Same.trans w4 w57
      have w37 := Same.trans w3 w47
      have w27 := Same.trans w2 w37
      have h1 := w27 p1 _ upd_same
      have h2 := w37 p2 _ upd_same
      have h3 := w47 p3 _ upd_same
      have h4 := w57 p4 _ upd_same
      have h5 := w67 p5 _ upd_same
      have h6 := w7 p6 _ upd_same
      have hr6 := w6 _ _ (w5 _ _ (w4 _ _ (w3 _ _ (w2 _ _ (w1 _ _ hr)))))
      have r7 : p7 ≠ r := fun e => by
        rw [e] at n7
        exact nomatch n7.symm.trans hr6
      have hr7 := w7 _ _ hr6
      clear w1 w2 w3 w4 w5 w6 w7 w67 w57 w47 w37 w27 hr6 n1 n2 n3 n4 n5 n6 n7
      have h7 : ∀ {H6 : Hp}, upd H6 p7 (.lst [.ref p1, .ref p2, .ref p3, .ref p4, .ref p5, .ref p6]) p7 = some (.lst [.ref p1, .ref p2, .ref p3, .ref p4, .ref p5, .ref p6]) := upd_same
      refine ⟨_, rfl, r, ds3, rfl, hr7, fun n0 ds4 => .inl ⟨n0, rfl, n0, 6, rfl, rfl, (by decide : (0 : Int) < 6), ?_⟩⟩
      obtain ⟨j, hj, ej⟩ : ∃ j : Nat, j < 6 ∧ n0 % 6 = (j : Int) := ⟨(n0 % 6).toNat, by omega, by omega⟩
      dsimp only
      rw [ej]
      have k : ∀ {H7 : Hp} {b : Addr} {xs : List V}, H7 r = some (.lst (ds3.map V.int)) → H7 b = some (.tup xs) → upd H7 r (.lst (ds4.map V.int)) b = some (.tup xs) := fun e7 e => SameBut.upd _ _ (ne_of e e7 (fun z => nomatch z)) e
      have h8 : ∀ {H6 : Hp}, upd (upd H6 p7 (.lst [.ref p1, .ref p2, .ref p3, .ref p4, .ref p5, .ref p6])) r (.lst (ds4.map V.int)) p7 = some (.lst [.ref p1, .ref p2, .ref p3, .ref p4, .ref p5, .ref p6]) := by
        intro H6
        rw [upd_ne r7]
        exact upd_same
      rcases (show j = 0 ∨ j = 1 ∨ j = 2 ∨ j = 3 ∨ j = 4 ∨ j = 5 by omega) with rfl | rfl | rfl | rfl | rfl | rfl
      · refine ⟨p7, _, _, .ref p1, rfl, rfl, .inl (.inl h8), atI_nat (j := 0) rfl, ?_⟩
        exact ⟨p1, [0, 0], rfl, k hr7 h1, by decide⟩
      · refine ⟨p7, _, _, .ref p2, rfl, rfl, .inl (.inl h8), atI_nat (j := 1) rfl, ?_⟩
        exact ⟨p2, [1], rfl, k hr7 h2, by decide⟩
      · refine ⟨p7, _, _, .ref p3, rfl, rfl, .inl (.inl h8), atI_nat (j := 2) rfl, ?_⟩
        exact ⟨p3, [1, 2], rfl, k hr7 h3, by decide⟩
      · refine ⟨p7, _, _, .ref p4, rfl, rfl, .inl (.inl h8), atI_nat (j := 3) rfl, ?_⟩
        exact ⟨p4, [0, 2], rfl, k hr7 h4, by decide⟩
      · refine ⟨p7, _, _, .ref p5, rfl, rfl, .inl (.inl h8), atI_nat (j := 4) rfl, ?_⟩
        exact ⟨p5, [0, 1, 1], rfl, k hr7 h5, by decide⟩
      · refine ⟨p7, _, _, .ref p6, rfl, rfl, .inl (.inl h8), atI_nat (j := 5) rfl, ?_⟩
        exact ⟨p6, [-1, 0], rfl, k hr7 h6, by decide⟩
    clear hr
    rintro σ H14 ⟨ps, z, rfl, hps, hz⟩
    obtain ⟨na, lz⟩ := odd_not z hz
    refine ⟨fun σ H' => ∃ v10 : Option V, σ = [some (.ref sc), some (.ref r), some (.ref pa), some v, some (.int (lawD p : Nat)), some (.ref td), some (.ref tb), some (.ref ts), some x, some (.ref ps), v10, none, none], ?_, ?_⟩
    · refine ⟨_, rfl, by decide, by decide, ?_⟩
      refine for_range (lo := 0) (n := 3) (fun k σ H' => ∃ v10 : Option V, σ = [some (.ref sc), some (.ref r), some (.ref pa), some v, some (.int (lawD p : Nat)), some (.ref td), some (.ref tb), some (.ref ts), some x, some (.ref ps), v10, none, none] ∧ H' ps = some (.tup (z.map V.int))) ⟨none, rfl, hps⟩ (fun k σ H15 hk hP => ?_) (fun σ H15 hP => ?_)
      · obtain ⟨v10, rfl, hp⟩ := hP
        have hw : (0 : Int) + (k : Int) = 0 ∨ (0 : Int) + (k : Int) = 1 ∨ (0 : Int) + (k : Int) = 2 := by omega
        refine ⟨_, rfl, _, rfl, told_bad (E := fun _ _ _ => False) hw (.inl (.inl hp)) lz (fun _ H16 s16 => ?_) (fun ia => absurd ia na)⟩
        refine ⟨rfl, _, rfl, if_neg_of (by rw [decide_eq_true rfl]; exact Bool.false_ne_true) ?_⟩
        refine ⟨_, rfl, (by show 6 ≤ sizeLine; omega), fun q1 m1 => told_bad (E := fun _ _ _ => False) (p := [5, 4, 3, 2, 1, 0]) hw (.inl (.inl upd_same)) (by decide) (fun na => absurd (by unfold IsArr; decide) na) (fun _ => ⟨by decide, fun H17 s17 => ?_⟩)⟩
        refine ⟨rfl, _, rfl, if_neg_of (by rw [decide_eq_true rfl]; exact Bool.false_ne_true) ?_⟩
        refine ⟨_, rfl, (by show 6 ≤ sizeLine; omega), fun q2 m2 => told_bad (E := fun _ _ _ => False) (p := [0, 0, 1, 2, 3, 4]) hw (.inl (.inl upd_same)) (by decide) (fun _ H18 s18 => ?_) (fun ia => absurd ia (by unfold IsArr; decide))⟩
        refine ⟨rfl, _, rfl, ite_same ⟨_, rfl, ?_⟩⟩
        exact s18 _ _ (same_upd m2 _ _ (s17 _ _ (same_upd m1 _ _ (s16 _ _ hp))))
      · obtain ⟨v10, rfl, _⟩ := hP
        exact ⟨v10, rfl⟩
    rintro σ H15 ⟨v10, rfl⟩
    refine ⟨(by show 2 ≤ sizeLine; omega), fun q1 m1 => ⟨(by show 1 ≤ sizeLine; omega), fun q2 m2 => ⟨(by show 3 ≤ sizeLine; omega), fun q3 m3 => ?_⟩⟩⟩
    have w1 := same_upd (o := .tup [.int 0, .int 0]) m1
    have w2 := same_upd (o := .tup [.ref q1]) m2
    have w3 := same_upd (o := .tup [.int 1, .int 1, .ref q2]) m3
    have hq1 := w3 _ _ (w2 q1 _ upd_same)
    have hq2 := w3 q2 _ upd_same
    refine ⟨3, .ref q3, rfl, .inr ⟨rfl, 1, 1, [[0, 0]], ⟨q3, .ref q2, rfl, upd_same, q2, _, rfl, hq2, .cons ⟨q1, rfl, hq1⟩ .nil⟩, ⟨by decide, by decide, by decide, by decide⟩, fun _ H16 s16 => ?_, fun dg => absurd dg bad_00⟩⟩
    refine ⟨rfl, ?_⟩
    rw [decide_eq_true rfl]
    exact q _
end

theorem all_mk {P : Program} {w : World} {K : PySem.W.Frag} {h : Heap} {mg : Str → Option Value} {fa : Addr} (X : K.In h) (G : h.Ns mainGlobals mg) (hfa : mg "law" = some (.ref fa))
    {f_law_number : Addr} {od_law_number an_law_number : Option Addr} {sl_law_number : Array (Option Value)} {oc_law_number kV_law_number dc_law_number pm_law_number cd_law_number ct_law_number : Value}
    {f_law_next : Addr} {od_law_next an_law_next : Option Addr} {sl_law_next : Array (Option Value)} {oc_law_next kV_law_next dc_law_next pm_law_next cd_law_next ct_law_next : Value}
    {f_law_draws : Addr} {od_law_draws an_law_draws : Option Addr} {sl_law_draws : Array (Option Value)} {oc_law_draws kV_law_draws dc_law_draws pm_law_draws cd_law_draws ct_law_draws : Value}
    {f_is_size_ : Addr} {od_is_size_ an_is_size_ : Option Addr} {sl_is_size_ : Array (Option Value)} {oc_is_size_ kV_is_size_ dc_is_size_ pm_is_size_ cd_is_size_ ct_is_size_ : Value}
    {f_is_diagram : Addr} {od_is_diagram an_is_diagram : Option Addr} {sl_is_diagram : Array (Option Value)} {oc_is_diagram kV_is_diagram dc_is_diagram pm_is_diagram cd_is_diagram ct_is_diagram : Value}
    {f_check_diagram : Addr} {od_check_diagram an_check_diagram : Option Addr} {sl_check_diagram : Array (Option Value)} {oc_check_diagram kV_check_diagram dc_check_diagram pm_check_diagram cd_check_diagram ct_check_diagram : Value}
    {f_check_family : Addr} {od_check_family an_check_family : Option Addr} {sl_check_family : Array (Option Value)} {oc_check_family kV_check_family dc_check_family pm_check_family cd_check_family ct_check_family : Value}
    {f_is_strand_ : Addr} {od_is_strand_ an_is_strand_ : Option Addr} {sl_is_strand_ : Array (Option Value)} {oc_is_strand_ kV_is_strand_ dc_is_strand_ pm_is_strand_ cd_is_strand_ ct_is_strand_ : Value}
    {f_is_block_size_ : Addr} {od_is_block_size_ an_is_block_size_ : Option Addr} {sl_is_block_size_ : Array (Option Value)} {oc_is_block_size_ kV_is_block_size_ dc_is_block_size_ pm_is_block_size_ cd_is_block_size_ ct_is_block_size_ : Value}
    {f_is_block_of_ : Addr} {od_is_block_of_ an_is_block_of_ : Option Addr} {sl_is_block_of_ : Array (Option Value)} {oc_is_block_of_ kV_is_block_of_ dc_is_block_of_ pm_is_block_of_ cd_is_block_of_ ct_is_block_of_ : Value}
    {f_is_in : Addr} {od_is_in an_is_in : Option Addr} {sl_is_in : Array (Option Value)} {oc_is_in kV_is_in dc_is_in pm_is_in cd_is_in ct_is_in : Value}
    {f_goes_on_ : Addr} {od_goes_on_ an_goes_on_ : Option Addr} {sl_goes_on_ : Array (Option Value)} {oc_goes_on_ kV_goes_on_ dc_goes_on_ pm_goes_on_ cd_goes_on_ ct_goes_on_ : Value}
    {f_longest_fall_ : Addr} {od_longest_fall_ an_longest_fall_ : Option Addr} {sl_longest_fall_ : Array (Option Value)} {oc_longest_fall_ kV_longest_fall_ dc_longest_fall_ pm_longest_fall_ cd_longest_fall_ ct_longest_fall_ : Value}
    {f_descents_ : Addr} {od_descents_ an_descents_ : Option Addr} {sl_descents_ : Array (Option Value)} {oc_descents_ kV_descents_ dc_descents_ pm_descents_ cd_descents_ ct_descents_ : Value}
    {f_sign_ : Addr} {od_sign_ an_sign_ : Option Addr} {sl_sign_ : Array (Option Value)} {oc_sign_ kV_sign_ dc_sign_ pm_sign_ cd_sign_ ct_sign_ : Value}
    {f_thread_ : Addr} {od_thread_ an_thread_ : Option Addr} {sl_thread_ : Array (Option Value)} {oc_thread_ kV_thread_ dc_thread_ pm_thread_ cd_thread_ ct_thread_ : Value}
    {f_check_places_ : Addr} {od_check_places_ an_check_places_ : Option Addr} {sl_check_places_ : Array (Option Value)} {oc_check_places_ kV_check_places_ dc_check_places_ pm_check_places_ cd_check_places_ ct_check_places_ : Value}
    {f_thread : Addr} {od_thread an_thread : Option Addr} {sl_thread : Array (Option Value)} {oc_thread kV_thread dc_thread pm_thread cd_thread ct_thread : Value}
    {f_sign : Addr} {od_sign an_sign : Option Addr} {sl_sign : Array (Option Value)} {oc_sign kV_sign dc_sign pm_sign cd_sign ct_sign : Value}
    {f_longest_fall : Addr} {od_longest_fall an_longest_fall : Option Addr} {sl_longest_fall : Array (Option Value)} {oc_longest_fall kV_longest_fall dc_longest_fall pm_longest_fall cd_longest_fall ct_longest_fall : Value}
    {f_arrangement : Addr} {od_arrangement an_arrangement : Option Addr} {sl_arrangement : Array (Option Value)} {oc_arrangement kV_arrangement dc_arrangement pm_arrangement cd_arrangement ct_arrangement : Value}
    {f_law_places : Addr} {od_law_places an_law_places : Option Addr} {sl_law_places : Array (Option Value)} {oc_law_places kV_law_places dc_law_places pm_law_places cd_law_places ct_law_places : Value}
    {f_law_thread : Addr} {od_law_thread an_law_thread : Option Addr} {sl_law_thread : Array (Option Value)} {oc_law_thread kV_law_thread dc_law_thread pm_law_thread cd_law_thread ct_law_thread : Value}
    {f_law_descents : Addr} {od_law_descents an_law_descents : Option Addr} {sl_law_descents : Array (Option Value)} {oc_law_descents kV_law_descents dc_law_descents pm_law_descents cd_law_descents ct_law_descents : Value}
    {f_law_falls : Addr} {od_law_falls an_law_falls : Option Addr} {sl_law_falls : Array (Option Value)} {oc_law_falls kV_law_falls dc_law_falls pm_law_falls cd_law_falls ct_law_falls : Value}
    {f_law_depth : Addr} {od_law_depth an_law_depth : Option Addr} {sl_law_depth : Array (Option Value)} {oc_law_depth kV_law_depth dc_law_depth pm_law_depth cd_law_depth ct_law_depth : Value}
    {f_law_marked : Addr} {od_law_marked an_law_marked : Option Addr} {sl_law_marked : Array (Option Value)} {oc_law_marked kV_law_marked dc_law_marked pm_law_marked cd_law_marked ct_law_marked : Value}
    {f_law_belongs : Addr} {od_law_belongs an_law_belongs : Option Addr} {sl_law_belongs : Array (Option Value)} {oc_law_belongs kV_law_belongs dc_law_belongs pm_law_belongs cd_law_belongs ct_law_belongs : Value}
    {f_law_all : Addr} {od_law_all an_law_all : Option Addr} {sl_law_all : Array (Option Value)} {oc_law_all kV_law_all dc_law_all pm_law_all cd_law_all ct_law_all : Value}
    {f_law_kind : Addr} {od_law_kind an_law_kind : Option Addr} {sl_law_kind : Array (Option Value)} {oc_law_kind kV_law_kind dc_law_kind pm_law_kind cd_law_kind ct_law_kind : Value}
    {f_law_told : Addr} {od_law_told an_law_told : Option Addr} {sl_law_told : Array (Option Value)} {oc_law_told kV_law_told dc_law_told pm_law_told cd_law_told ct_law_told : Value}
    {f_law : Addr} {od_law an_law : Option Addr} {sl_law : Array (Option Value)} {oc_law kV_law dc_law pm_law cd_law ct_law : Value}
    {CB : Addr}
    {CD : Addr}
    {CT : Addr}
    {CF : Addr}
    {tm_MOST_ON_A_SIDE : Tok}
    {tm_MOST_POINTS : Tok}
    {tm_MOST_PLACES : Tok}
    {aF : Addr} {ddF : Option Addr} {nF : Nat} {slF : Array (Option Value)} {uf0 uf1 uf2 uf3 uf4 uf5 : Tok}
    {CE : Addr}
    {X_NotWorld : Addr}
    {X_NotNumber : Addr}
    (a_law_number : PySem.W.nsIn K mainGlobals "_law_number" = some (some (.ref f_law_number))) (l_law_number : K.lookup f_law_number = some ⟨oc_law_number, od_law_number, .func (PySem.W.fnOf "_law_number" "_law_number" (defArgs s_law_number) (defBody s_law_number) (defScope s_law_number) .none kV_law_number dc_law_number pm_law_number an_law_number cd_law_number ct_law_number), sl_law_number⟩) (c_law_number : PySem.W.codeIn K cd_law_number "_law_number" = true) (k_law_number : PySem.W.keepIn K (.ref f_law_number) = true)
    (a_law_next : PySem.W.nsIn K mainGlobals "_law_next" = some (some (.ref f_law_next))) (l_law_next : K.lookup f_law_next = some ⟨oc_law_next, od_law_next, .func (PySem.W.fnOf "_law_next" "_law_next" (defArgs s_law_next) (defBody s_law_next) (defScope s_law_next) .none kV_law_next dc_law_next pm_law_next an_law_next cd_law_next ct_law_next), sl_law_next⟩) (c_law_next : PySem.W.codeIn K cd_law_next "_law_next" = true) (k_law_next : PySem.W.keepIn K (.ref f_law_next) = true)
    (a_law_draws : PySem.W.nsIn K mainGlobals "_law_draws" = some (some (.ref f_law_draws))) (l_law_draws : K.lookup f_law_draws = some ⟨oc_law_draws, od_law_draws, .func (PySem.W.fnOf "_law_draws" "_law_draws" (defArgs s_law_draws) (defBody s_law_draws) (defScope s_law_draws) .none kV_law_draws dc_law_draws pm_law_draws an_law_draws cd_law_draws ct_law_draws), sl_law_draws⟩) (c_law_draws : PySem.W.codeIn K cd_law_draws "_law_draws" = true) (k_law_draws : PySem.W.keepIn K (.ref f_law_draws) = true)
    (a_is_size_ : PySem.W.nsIn K mainGlobals "_is_size" = some (some (.ref f_is_size_))) (l_is_size_ : K.lookup f_is_size_ = some ⟨oc_is_size_, od_is_size_, .func (PySem.W.fnOf "_is_size" "_is_size" (defArgs s_is_size_) (defBody s_is_size_) (defScope s_is_size_) .none kV_is_size_ dc_is_size_ pm_is_size_ an_is_size_ cd_is_size_ ct_is_size_), sl_is_size_⟩) (c_is_size_ : PySem.W.codeIn K cd_is_size_ "_is_size" = true) (k_is_size_ : PySem.W.keepIn K (.ref f_is_size_) = true)
    (a_is_diagram : PySem.W.nsIn K mainGlobals "is_diagram" = some (some (.ref f_is_diagram))) (l_is_diagram : K.lookup f_is_diagram = some ⟨oc_is_diagram, od_is_diagram, .func (PySem.W.fnOf "is_diagram" "is_diagram" (defArgs s_is_diagram) (defBody s_is_diagram) (defScope s_is_diagram) .none kV_is_diagram dc_is_diagram pm_is_diagram an_is_diagram cd_is_diagram ct_is_diagram), sl_is_diagram⟩) (c_is_diagram : PySem.W.codeIn K cd_is_diagram "is_diagram" = true) (k_is_diagram : PySem.W.keepIn K (.ref f_is_diagram) = true)
    (a_check_diagram : PySem.W.nsIn K mainGlobals "check_diagram" = some (some (.ref f_check_diagram))) (l_check_diagram : K.lookup f_check_diagram = some ⟨oc_check_diagram, od_check_diagram, .func (PySem.W.fnOf "check_diagram" "check_diagram" (defArgs s_check_diagram) (defBody s_check_diagram) (defScope s_check_diagram) .none kV_check_diagram dc_check_diagram pm_check_diagram an_check_diagram cd_check_diagram ct_check_diagram), sl_check_diagram⟩) (c_check_diagram : PySem.W.codeIn K cd_check_diagram "check_diagram" = true) (k_check_diagram : PySem.W.keepIn K (.ref f_check_diagram) = true)
    (a_check_family : PySem.W.nsIn K mainGlobals "check_family" = some (some (.ref f_check_family))) (l_check_family : K.lookup f_check_family = some ⟨oc_check_family, od_check_family, .func (PySem.W.fnOf "check_family" "check_family" (defArgs s_check_family) (defBody s_check_family) (defScope s_check_family) .none kV_check_family dc_check_family pm_check_family an_check_family cd_check_family ct_check_family), sl_check_family⟩) (c_check_family : PySem.W.codeIn K cd_check_family "check_family" = true) (k_check_family : PySem.W.keepIn K (.ref f_check_family) = true)
    (a_is_strand_ : PySem.W.nsIn K mainGlobals "_is_strand" = some (some (.ref f_is_strand_))) (l_is_strand_ : K.lookup f_is_strand_ = some ⟨oc_is_strand_, od_is_strand_, .func (PySem.W.fnOf "_is_strand" "_is_strand" (defArgs s_is_strand_) (defBody s_is_strand_) (defScope s_is_strand_) .none kV_is_strand_ dc_is_strand_ pm_is_strand_ an_is_strand_ cd_is_strand_ ct_is_strand_), sl_is_strand_⟩) (c_is_strand_ : PySem.W.codeIn K cd_is_strand_ "_is_strand" = true) (k_is_strand_ : PySem.W.keepIn K (.ref f_is_strand_) = true)
    (a_is_block_size_ : PySem.W.nsIn K mainGlobals "_is_block_size" = some (some (.ref f_is_block_size_))) (l_is_block_size_ : K.lookup f_is_block_size_ = some ⟨oc_is_block_size_, od_is_block_size_, .func (PySem.W.fnOf "_is_block_size" "_is_block_size" (defArgs s_is_block_size_) (defBody s_is_block_size_) (defScope s_is_block_size_) .none kV_is_block_size_ dc_is_block_size_ pm_is_block_size_ an_is_block_size_ cd_is_block_size_ ct_is_block_size_), sl_is_block_size_⟩) (c_is_block_size_ : PySem.W.codeIn K cd_is_block_size_ "_is_block_size" = true) (k_is_block_size_ : PySem.W.keepIn K (.ref f_is_block_size_) = true)
    (a_is_block_of_ : PySem.W.nsIn K mainGlobals "_is_block_of" = some (some (.ref f_is_block_of_))) (l_is_block_of_ : K.lookup f_is_block_of_ = some ⟨oc_is_block_of_, od_is_block_of_, .func (PySem.W.fnOf "_is_block_of" "_is_block_of" (defArgs s_is_block_of_) (defBody s_is_block_of_) (defScope s_is_block_of_) .none kV_is_block_of_ dc_is_block_of_ pm_is_block_of_ an_is_block_of_ cd_is_block_of_ ct_is_block_of_), sl_is_block_of_⟩) (c_is_block_of_ : PySem.W.codeIn K cd_is_block_of_ "_is_block_of" = true) (k_is_block_of_ : PySem.W.keepIn K (.ref f_is_block_of_) = true)
    (a_is_in : PySem.W.nsIn K mainGlobals "is_in" = some (some (.ref f_is_in))) (l_is_in : K.lookup f_is_in = some ⟨oc_is_in, od_is_in, .func (PySem.W.fnOf "is_in" "is_in" (defArgs s_is_in) (defBody s_is_in) (defScope s_is_in) .none kV_is_in dc_is_in pm_is_in an_is_in cd_is_in ct_is_in), sl_is_in⟩) (c_is_in : PySem.W.codeIn K cd_is_in "is_in" = true) (k_is_in : PySem.W.keepIn K (.ref f_is_in) = true)
    (a_goes_on_ : PySem.W.nsIn K mainGlobals "_goes_on" = some (some (.ref f_goes_on_))) (l_goes_on_ : K.lookup f_goes_on_ = some ⟨oc_goes_on_, od_goes_on_, .func (PySem.W.fnOf "_goes_on" "_goes_on" (defArgs s_goes_on_) (defBody s_goes_on_) (defScope s_goes_on_) .none kV_goes_on_ dc_goes_on_ pm_goes_on_ an_goes_on_ cd_goes_on_ ct_goes_on_), sl_goes_on_⟩) (c_goes_on_ : PySem.W.codeIn K cd_goes_on_ "_goes_on" = true) (k_goes_on_ : PySem.W.keepIn K (.ref f_goes_on_) = true)
    (a_longest_fall_ : PySem.W.nsIn K mainGlobals "_longest_fall" = some (some (.ref f_longest_fall_))) (l_longest_fall_ : K.lookup f_longest_fall_ = some ⟨oc_longest_fall_, od_longest_fall_, .func (PySem.W.fnOf "_longest_fall" "_longest_fall" (defArgs s_longest_fall_) (defBody s_longest_fall_) (defScope s_longest_fall_) .none kV_longest_fall_ dc_longest_fall_ pm_longest_fall_ an_longest_fall_ cd_longest_fall_ ct_longest_fall_), sl_longest_fall_⟩) (c_longest_fall_ : PySem.W.codeIn K cd_longest_fall_ "_longest_fall" = true) (k_longest_fall_ : PySem.W.keepIn K (.ref f_longest_fall_) = true)
    (a_descents_ : PySem.W.nsIn K mainGlobals "_descents" = some (some (.ref f_descents_))) (l_descents_ : K.lookup f_descents_ = some ⟨oc_descents_, od_descents_, .func (PySem.W.fnOf "_descents" "_descents" (defArgs s_descents_) (defBody s_descents_) (defScope s_descents_) .none kV_descents_ dc_descents_ pm_descents_ an_descents_ cd_descents_ ct_descents_), sl_descents_⟩) (c_descents_ : PySem.W.codeIn K cd_descents_ "_descents" = true) (k_descents_ : PySem.W.keepIn K (.ref f_descents_) = true)
    (a_sign_ : PySem.W.nsIn K mainGlobals "_sign" = some (some (.ref f_sign_))) (l_sign_ : K.lookup f_sign_ = some ⟨oc_sign_, od_sign_, .func (PySem.W.fnOf "_sign" "_sign" (defArgs s_sign_) (defBody s_sign_) (defScope s_sign_) .none kV_sign_ dc_sign_ pm_sign_ an_sign_ cd_sign_ ct_sign_), sl_sign_⟩) (c_sign_ : PySem.W.codeIn K cd_sign_ "_sign" = true) (k_sign_ : PySem.W.keepIn K (.ref f_sign_) = true)
    (a_thread_ : PySem.W.nsIn K mainGlobals "_thread" = some (some (.ref f_thread_))) (l_thread_ : K.lookup f_thread_ = some ⟨oc_thread_, od_thread_, .func (PySem.W.fnOf "_thread" "_thread" (defArgs s_thread_) (defBody s_thread_) (defScope s_thread_) .none kV_thread_ dc_thread_ pm_thread_ an_thread_ cd_thread_ ct_thread_), sl_thread_⟩) (c_thread_ : PySem.W.codeIn K cd_thread_ "_thread" = true) (k_thread_ : PySem.W.keepIn K (.ref f_thread_) = true)
    (a_check_places_ : PySem.W.nsIn K mainGlobals "_check_places" = some (some (.ref f_check_places_))) (l_check_places_ : K.lookup f_check_places_ = some ⟨oc_check_places_, od_check_places_, .func (PySem.W.fnOf "_check_places" "_check_places" (defArgs s_check_places_) (defBody s_check_places_) (defScope s_check_places_) .none kV_check_places_ dc_check_places_ pm_check_places_ an_check_places_ cd_check_places_ ct_check_places_), sl_check_places_⟩) (c_check_places_ : PySem.W.codeIn K cd_check_places_ "_check_places" = true) (k_check_places_ : PySem.W.keepIn K (.ref f_check_places_) = true)
    (a_thread : PySem.W.nsIn K mainGlobals "thread" = some (some (.ref f_thread))) (l_thread : K.lookup f_thread = some ⟨oc_thread, od_thread, .func (PySem.W.fnOf "thread" "thread" (defArgs s_thread) (defBody s_thread) (defScope s_thread) .none kV_thread dc_thread pm_thread an_thread cd_thread ct_thread), sl_thread⟩) (c_thread : PySem.W.codeIn K cd_thread "thread" = true) (k_thread : PySem.W.keepIn K (.ref f_thread) = true)
    (a_sign : PySem.W.nsIn K mainGlobals "sign" = some (some (.ref f_sign))) (l_sign : K.lookup f_sign = some ⟨oc_sign, od_sign, .func (PySem.W.fnOf "sign" "sign" (defArgs s_sign) (defBody s_sign) (defScope s_sign) .none kV_sign dc_sign pm_sign an_sign cd_sign ct_sign), sl_sign⟩) (c_sign : PySem.W.codeIn K cd_sign "sign" = true) (k_sign : PySem.W.keepIn K (.ref f_sign) = true)
    (a_longest_fall : PySem.W.nsIn K mainGlobals "longest_fall" = some (some (.ref f_longest_fall))) (l_longest_fall : K.lookup f_longest_fall = some ⟨oc_longest_fall, od_longest_fall, .func (PySem.W.fnOf "longest_fall" "longest_fall" (defArgs s_longest_fall) (defBody s_longest_fall) (defScope s_longest_fall) .none kV_longest_fall dc_longest_fall pm_longest_fall an_longest_fall cd_longest_fall ct_longest_fall), sl_longest_fall⟩) (c_longest_fall : PySem.W.codeIn K cd_longest_fall "longest_fall" = true) (k_longest_fall : PySem.W.keepIn K (.ref f_longest_fall) = true)
    (a_arrangement : PySem.W.nsIn K mainGlobals "arrangement" = some (some (.ref f_arrangement))) (l_arrangement : K.lookup f_arrangement = some ⟨oc_arrangement, od_arrangement, .func (PySem.W.fnOf "arrangement" "arrangement" (defArgs s_arrangement) (defBody s_arrangement) (defScope s_arrangement) .none kV_arrangement dc_arrangement pm_arrangement an_arrangement cd_arrangement ct_arrangement), sl_arrangement⟩) (c_arrangement : PySem.W.codeIn K cd_arrangement "arrangement" = true) (k_arrangement : PySem.W.keepIn K (.ref f_arrangement) = true)
    (a_law_places : PySem.W.nsIn K mainGlobals "_law_places" = some (some (.ref f_law_places))) (l_law_places : K.lookup f_law_places = some ⟨oc_law_places, od_law_places, .func (PySem.W.fnOf "_law_places" "_law_places" (defArgs s_law_places) (defBody s_law_places) (defScope s_law_places) .none kV_law_places dc_law_places pm_law_places an_law_places cd_law_places ct_law_places), sl_law_places⟩) (c_law_places : PySem.W.codeIn K cd_law_places "_law_places" = true) (k_law_places : PySem.W.keepIn K (.ref f_law_places) = true)
    (a_law_thread : PySem.W.nsIn K mainGlobals "_law_thread" = some (some (.ref f_law_thread))) (l_law_thread : K.lookup f_law_thread = some ⟨oc_law_thread, od_law_thread, .func (PySem.W.fnOf "_law_thread" "_law_thread" (defArgs s_law_thread) (defBody s_law_thread) (defScope s_law_thread) .none kV_law_thread dc_law_thread pm_law_thread an_law_thread cd_law_thread ct_law_thread), sl_law_thread⟩) (c_law_thread : PySem.W.codeIn K cd_law_thread "_law_thread" = true) (k_law_thread : PySem.W.keepIn K (.ref f_law_thread) = true)
    (a_law_descents : PySem.W.nsIn K mainGlobals "_law_descents" = some (some (.ref f_law_descents))) (l_law_descents : K.lookup f_law_descents = some ⟨oc_law_descents, od_law_descents, .func (PySem.W.fnOf "_law_descents" "_law_descents" (defArgs s_law_descents) (defBody s_law_descents) (defScope s_law_descents) .none kV_law_descents dc_law_descents pm_law_descents an_law_descents cd_law_descents ct_law_descents), sl_law_descents⟩) (c_law_descents : PySem.W.codeIn K cd_law_descents "_law_descents" = true) (k_law_descents : PySem.W.keepIn K (.ref f_law_descents) = true)
    (a_law_falls : PySem.W.nsIn K mainGlobals "_law_falls" = some (some (.ref f_law_falls))) (l_law_falls : K.lookup f_law_falls = some ⟨oc_law_falls, od_law_falls, .func (PySem.W.fnOf "_law_falls" "_law_falls" (defArgs s_law_falls) (defBody s_law_falls) (defScope s_law_falls) .none kV_law_falls dc_law_falls pm_law_falls an_law_falls cd_law_falls ct_law_falls), sl_law_falls⟩) (c_law_falls : PySem.W.codeIn K cd_law_falls "_law_falls" = true) (k_law_falls : PySem.W.keepIn K (.ref f_law_falls) = true)
    (a_law_depth : PySem.W.nsIn K mainGlobals "_law_depth" = some (some (.ref f_law_depth))) (l_law_depth : K.lookup f_law_depth = some ⟨oc_law_depth, od_law_depth, .func (PySem.W.fnOf "_law_depth" "_law_depth" (defArgs s_law_depth) (defBody s_law_depth) (defScope s_law_depth) .none kV_law_depth dc_law_depth pm_law_depth an_law_depth cd_law_depth ct_law_depth), sl_law_depth⟩) (c_law_depth : PySem.W.codeIn K cd_law_depth "_law_depth" = true) (k_law_depth : PySem.W.keepIn K (.ref f_law_depth) = true)
    (a_law_marked : PySem.W.nsIn K mainGlobals "_law_marked" = some (some (.ref f_law_marked))) (l_law_marked : K.lookup f_law_marked = some ⟨oc_law_marked, od_law_marked, .func (PySem.W.fnOf "_law_marked" "_law_marked" (defArgs s_law_marked) (defBody s_law_marked) (defScope s_law_marked) .none kV_law_marked dc_law_marked pm_law_marked an_law_marked cd_law_marked ct_law_marked), sl_law_marked⟩) (c_law_marked : PySem.W.codeIn K cd_law_marked "_law_marked" = true) (k_law_marked : PySem.W.keepIn K (.ref f_law_marked) = true)
    (a_law_belongs : PySem.W.nsIn K mainGlobals "_law_belongs" = some (some (.ref f_law_belongs))) (l_law_belongs : K.lookup f_law_belongs = some ⟨oc_law_belongs, od_law_belongs, .func (PySem.W.fnOf "_law_belongs" "_law_belongs" (defArgs s_law_belongs) (defBody s_law_belongs) (defScope s_law_belongs) .none kV_law_belongs dc_law_belongs pm_law_belongs an_law_belongs cd_law_belongs ct_law_belongs), sl_law_belongs⟩) (c_law_belongs : PySem.W.codeIn K cd_law_belongs "_law_belongs" = true) (k_law_belongs : PySem.W.keepIn K (.ref f_law_belongs) = true)
    (a_law_all : PySem.W.nsIn K mainGlobals "_law_all" = some (some (.ref f_law_all))) (l_law_all : K.lookup f_law_all = some ⟨oc_law_all, od_law_all, .func (PySem.W.fnOf "_law_all" "_law_all" (defArgs s_law_all) (defBody s_law_all) (defScope s_law_all) .none kV_law_all dc_law_all pm_law_all an_law_all cd_law_all ct_law_all), sl_law_all⟩) (c_law_all : PySem.W.codeIn K cd_law_all "_law_all" = true) (k_law_all : PySem.W.keepIn K (.ref f_law_all) = true)
    (a_law_kind : PySem.W.nsIn K mainGlobals "_law_kind" = some (some (.ref f_law_kind))) (l_law_kind : K.lookup f_law_kind = some ⟨oc_law_kind, od_law_kind, .func (PySem.W.fnOf "_law_kind" "_law_kind" (defArgs s_law_kind) (defBody s_law_kind) (defScope s_law_kind) .none kV_law_kind dc_law_kind pm_law_kind an_law_kind cd_law_kind ct_law_kind), sl_law_kind⟩) (c_law_kind : PySem.W.codeIn K cd_law_kind "_law_kind" = true) (k_law_kind : PySem.W.keepIn K (.ref f_law_kind) = true)
    (a_law_told : PySem.W.nsIn K mainGlobals "_law_told" = some (some (.ref f_law_told))) (l_law_told : K.lookup f_law_told = some ⟨oc_law_told, od_law_told, .func (PySem.W.fnOf "_law_told" "_law_told" (defArgs s_law_told) (defBody s_law_told) (defScope s_law_told) .none kV_law_told dc_law_told pm_law_told an_law_told cd_law_told ct_law_told), sl_law_told⟩) (c_law_told : PySem.W.codeIn K cd_law_told "_law_told" = true) (k_law_told : PySem.W.keepIn K (.ref f_law_told) = true)
    (a_law : PySem.W.nsIn K mainGlobals "law" = some (some (.ref f_law))) (l_law : K.lookup f_law = some ⟨oc_law, od_law, .func (PySem.W.fnOf "law" "law" (defArgs s_law) (defBody s_law) (defScope s_law) .none kV_law dc_law pm_law an_law cd_law ct_law), sl_law⟩) (c_law : PySem.W.codeIn K cd_law "law" = true) (k_law : PySem.W.keepIn K (.ref f_law) = true)
    (zn_int : PySem.W.nsIn K mainGlobals "int" = some none)
    (zn_range : PySem.W.nsIn K mainGlobals "range" = some none)
    (zn_len : PySem.W.nsIn K mainGlobals "len" = some none)
    (zn_list : PySem.W.nsIn K mainGlobals "list" = some none)
    (zn_tuple : PySem.W.nsIn K mainGlobals "tuple" = some none)
    (zn_max : PySem.W.nsIn K mainGlobals "max" = some none)
    (zn_min : PySem.W.nsIn K mainGlobals "min" = some none)
    (zn_all : PySem.W.nsIn K mainGlobals "all" = some none)
    (zn_sorted : PySem.W.nsIn K mainGlobals "sorted" = some none)
    (zn_isinstance : PySem.W.nsIn K mainGlobals "isinstance" = some none)
    (zn_enumerate : PySem.W.nsIn K mainGlobals "enumerate" = some none)
    (zn_sum : PySem.W.nsIn K mainGlobals "sum" = some none)
    (zn_str : PySem.W.nsIn K mainGlobals "str" = some none)
    (zn_repr : PySem.W.nsIn K mainGlobals "repr" = some none)
    (zn_set : PySem.W.nsIn K mainGlobals "set" = some none)
    (n_BadNumber : PySem.W.nsIn K mainGlobals "BadNumber" = some (some (.ref CB)))
    (x_BadNumber : PySem.W.excIn K CB [.type "ValueError", .type "Exception", .type "BaseException", .type "object"] "ValueError.__new__" = true)
    (kc_BadNumber : PySem.W.keepIn K (.ref CB) = true)
    (bc_BadNumber : PySem.W.subIn K (.ref CB) (.type "BaseException") = some true)
    (tc_BadNumber : PySem.W.typeIn K (.ref CB) = some (.type "type"))
    (n_NotDiagram : PySem.W.nsIn K mainGlobals "NotDiagram" = some (some (.ref CD)))
    (x_NotDiagram : PySem.W.excIn K CD [.type "ValueError", .type "Exception", .type "BaseException", .type "object"] "ValueError.__new__" = true)
    (kc_NotDiagram : PySem.W.keepIn K (.ref CD) = true)
    (bc_NotDiagram : PySem.W.subIn K (.ref CD) (.type "BaseException") = some true)
    (tc_NotDiagram : PySem.W.typeIn K (.ref CD) = some (.type "type"))
    (n_TooLarge : PySem.W.nsIn K mainGlobals "TooLarge" = some (some (.ref CT)))
    (x_TooLarge : PySem.W.excIn K CT [.type "ValueError", .type "Exception", .type "BaseException", .type "object"] "ValueError.__new__" = true)
    (kc_TooLarge : PySem.W.keepIn K (.ref CT) = true)
    (bc_TooLarge : PySem.W.subIn K (.ref CT) (.type "BaseException") = some true)
    (tc_TooLarge : PySem.W.typeIn K (.ref CT) = some (.type "type"))
    (n_NotFamily : PySem.W.nsIn K mainGlobals "NotFamily" = some (some (.ref CF)))
    (x_NotFamily : PySem.W.excIn K CF [.type "ValueError", .type "Exception", .type "BaseException", .type "object"] "ValueError.__new__" = true)
    (kc_NotFamily : PySem.W.keepIn K (.ref CF) = true)
    (bc_NotFamily : PySem.W.subIn K (.ref CF) (.type "BaseException") = some true)
    (tc_NotFamily : PySem.W.typeIn K (.ref CF) = some (.type "type"))
    (n_MOST_ON_A_SIDE : PySem.W.nsIn K mainGlobals "MOST_ON_A_SIDE" = some (some (.int 8 tm_MOST_ON_A_SIDE)))
    (n_MOST_POINTS : PySem.W.nsIn K mainGlobals "MOST_POINTS" = some (some (.int 12 tm_MOST_POINTS)))
    (n_MOST_PLACES : PySem.W.nsIn K mainGlobals "MOST_PLACES" = some (some (.int 5 tm_MOST_PLACES)))
    (n_FAMILIES : PySem.W.nsIn K mainGlobals "FAMILIES" = some (some (.ref aF)))
    (l_FAMILIES : K.lookup aF = some ⟨.type "tuple", ddF, .seq #[.str "threads" uf0, .str "loose" uf1, .str "pairs" uf2, .str "lonepairs" uf3, .str "even" uf4, .str "parts" uf5] nF, slF⟩)
    (n_WorthError : PySem.W.nsIn K mainGlobals "WorthError" = some (some (.ref CE)))
    (ebc : PySem.W.subIn K (.ref CE) (.type "BaseException") = some true)
    (ehd : PySem.W.hasDictIn K CE = true)
    (ety : PySem.W.typeIn K (.ref CE) = some (.type "type"))
    (hn_cls : PySem.W.specialIn K (.builtin "object.__class__") "__get__" = some (some (.builtin "getset_descriptor.__get__")))
    (ht_cls : PySem.W.takesIn K (.builtin "object.__class__") = some true)
    (n_NotWorld : PySem.W.nsIn K mainGlobals "NotWorld" = some (some (.ref X_NotWorld)))
    (n_NotNumber : PySem.W.nsIn K mainGlobals "NotNumber" = some (some (.ref X_NotNumber)))
    (hg_NotDiagram : PySem.W.findIn K (.ref CD) "__getattribute__" = some (some (.builtin "BaseException.__getattribute__")))
    (hk_NotDiagram : PySem.W.findIn K (.ref CD) "__getattr__" = some none)
    (hd_NotDiagram : PySem.W.hasDictIn K CD = true)
    (ha_NotDiagram : PySem.W.findIn K (.ref CD) "__class__" = some (some (.builtin "object.__class__")))
    (hm_NotDiagram : PySem.W.mroIn K CD (.type "object") = some true)
    (sE_NotDiagram : PySem.W.subIn K (.ref CD) (.ref CE) = some true)
    (tE_NotDiagram : PySem.W.kitOne K (.ref CD) (.ref CE) = some true)
    (t_NotDiagram_NotWorld : PySem.W.kitOne K (.ref CD) (.ref X_NotWorld) = some false)
    (t_NotDiagram_NotFamily : PySem.W.kitOne K (.ref CD) (.ref CF) = some false)
    (t_NotDiagram_NotDiagram : PySem.W.kitOne K (.ref CD) (.ref CD) = some true)
    (t_NotDiagram_NotNumber : PySem.W.kitOne K (.ref CD) (.ref X_NotNumber) = some false)
    (t_NotDiagram_BadNumber : PySem.W.kitOne K (.ref CD) (.ref CB) = some false)
    (t_NotDiagram_TooLarge : PySem.W.kitOne K (.ref CD) (.ref CT) = some false)
    (hg_BadNumber : PySem.W.findIn K (.ref CB) "__getattribute__" = some (some (.builtin "BaseException.__getattribute__")))
    (hk_BadNumber : PySem.W.findIn K (.ref CB) "__getattr__" = some none)
    (hd_BadNumber : PySem.W.hasDictIn K CB = true)
    (ha_BadNumber : PySem.W.findIn K (.ref CB) "__class__" = some (some (.builtin "object.__class__")))
    (hm_BadNumber : PySem.W.mroIn K CB (.type "object") = some true)
    (sE_BadNumber : PySem.W.subIn K (.ref CB) (.ref CE) = some true)
    (tE_BadNumber : PySem.W.kitOne K (.ref CB) (.ref CE) = some true)
    (t_BadNumber_NotWorld : PySem.W.kitOne K (.ref CB) (.ref X_NotWorld) = some false)
    (t_BadNumber_NotFamily : PySem.W.kitOne K (.ref CB) (.ref CF) = some false)
    (t_BadNumber_NotDiagram : PySem.W.kitOne K (.ref CB) (.ref CD) = some false)
    (t_BadNumber_NotNumber : PySem.W.kitOne K (.ref CB) (.ref X_NotNumber) = some false)
    (t_BadNumber_BadNumber : PySem.W.kitOne K (.ref CB) (.ref CB) = some true)
    (t_BadNumber_TooLarge : PySem.W.kitOne K (.ref CB) (.ref CT) = some false)
    : ∃ fd : FuncData, (∀ (s : Shared) (v : Value), BindsTo s fd ⟨[v], []⟩ [("script", v)]) ∧ ∀ base : Heap, K.In base → base.Ns mainGlobals mg → FnG P w K mg base 8 fa fd ["script"] (spLaw K) := by
  have e := hfa.symm.trans (PySem.W.mg_of X G a_law)
  cases e
  have F_law_number := fun_mk (st := s_law_number) l_law_number c_law_number k_law_number
  have g_law_number := PySem.W.mg_of X G a_law_number
  have b_law_number := F_law_number.binds (ps := ["cell"]) fun _ _ _ _ _ _ us hl => match us, hl with | [_], _ => rfl
  have F_law_next := fun_mk (st := s_law_next) l_law_next c_law_next k_law_next
  have g_law_next := PySem.W.mg_of X G a_law_next
  have b_law_next := F_law_next.binds (ps := ["draws"]) fun _ _ _ _ _ _ us hl => match us, hl with | [_], _ => rfl
  have F_law_draws := fun_mk (st := s_law_draws) l_law_draws c_law_draws k_law_draws
  have g_law_draws := PySem.W.mg_of X G a_law_draws
  have b_law_draws := F_law_draws.binds (ps := ["script"]) fun _ _ _ _ _ _ us hl => match us, hl with | [_], _ => rfl
  have F_is_size_ := fun_mk (st := s_is_size_) l_is_size_ c_is_size_ k_is_size_
  have g_is_size_ := PySem.W.mg_of X G a_is_size_
  have b_is_size_ := F_is_size_.binds (ps := ["n", "m"]) fun _ _ _ _ _ _ us hl => match us, hl with | [_, _], _ => rfl
  have F_is_diagram := fun_mk (st := s_is_diagram) l_is_diagram c_is_diagram k_is_diagram
  have g_is_diagram := PySem.W.mg_of X G a_is_diagram
  have b_is_diagram := F_is_diagram.binds (ps := ["diagram"]) fun _ _ _ _ _ _ us hl => match us, hl with | [_], _ => rfl
  have F_check_diagram := fun_mk (st := s_check_diagram) l_check_diagram c_check_diagram k_check_diagram
  have g_check_diagram := PySem.W.mg_of X G a_check_diagram
  have b_check_diagram := F_check_diagram.binds (ps := ["diagram"]) fun _ _ _ _ _ _ us hl => match us, hl with | [_], _ => rfl
  have F_check_family := fun_mk (st := s_check_family) l_check_family c_check_family k_check_family
  have g_check_family := PySem.W.mg_of X G a_check_family
  have b_check_family := F_check_family.binds (ps := ["family"]) fun _ _ _ _ _ _ us hl => match us, hl with | [_], _ => rfl
  have F_is_strand_ := fun_mk (st := s_is_strand_) l_is_strand_ c_is_strand_ k_is_strand_
  have g_is_strand_ := PySem.W.mg_of X G a_is_strand_
  have b_is_strand_ := F_is_strand_.binds (ps := ["n", "block"]) fun _ _ _ _ _ _ us hl => match us, hl with | [_, _], _ => rfl
  have F_is_block_size_ := fun_mk (st := s_is_block_size_) l_is_block_size_ c_is_block_size_ k_is_block_size_
  have g_is_block_size_ := PySem.W.mg_of X G a_is_block_size_
  have b_is_block_size_ := F_is_block_size_.binds (ps := ["family", "size"]) fun _ _ _ _ _ _ us hl => match us, hl with | [_, _], _ => rfl
  have F_is_block_of_ := fun_mk (st := s_is_block_of_) l_is_block_of_ c_is_block_of_ k_is_block_of_
  have g_is_block_of_ := PySem.W.mg_of X G a_is_block_of_
  have b_is_block_of_ := F_is_block_of_.binds (ps := ["family", "n", "block"]) fun _ _ _ _ _ _ us hl => match us, hl with | [_, _, _], _ => rfl
  have F_is_in := fun_mk (st := s_is_in) l_is_in c_is_in k_is_in
  have g_is_in := PySem.W.mg_of X G a_is_in
  have b_is_in := F_is_in.binds (ps := ["family", "diagram"]) fun _ _ _ _ _ _ us hl => match us, hl with | [_, _], _ => rfl
  have F_goes_on_ := fun_mk (st := s_goes_on_) l_goes_on_ c_goes_on_ k_goes_on_
  have g_goes_on_ := PySem.W.mg_of X G a_goes_on_
  have b_goes_on_ := F_goes_on_.binds (ps := ["places", "fall", "k"]) fun _ _ _ _ _ _ us hl => match us, hl with | [_, _, _], _ => rfl
  have F_longest_fall_ := fun_mk (st := s_longest_fall_) l_longest_fall_ c_longest_fall_ k_longest_fall_
  have g_longest_fall_ := PySem.W.mg_of X G a_longest_fall_
  have b_longest_fall_ := F_longest_fall_.binds (ps := ["places"]) fun _ _ _ _ _ _ us hl => match us, hl with | [_], _ => rfl
  have F_descents_ := fun_mk (st := s_descents_) l_descents_ c_descents_ k_descents_
  have g_descents_ := PySem.W.mg_of X G a_descents_
  have b_descents_ := F_descents_.binds (ps := ["places"]) fun _ _ _ _ _ _ us hl => match us, hl with | [_], _ => rfl
  have F_sign_ := fun_mk (st := s_sign_) l_sign_ c_sign_ k_sign_
  have g_sign_ := PySem.W.mg_of X G a_sign_
  have b_sign_ := F_sign_.binds (ps := ["places"]) fun _ _ _ _ _ _ us hl => match us, hl with | [_], _ => rfl
  have F_thread_ := fun_mk (st := s_thread_) l_thread_ c_thread_ k_thread_
  have g_thread_ := PySem.W.mg_of X G a_thread_
  have b_thread_ := F_thread_.binds (ps := ["places"]) fun _ _ _ _ _ _ us hl => match us, hl with | [_], _ => rfl
  have F_check_places_ := fun_mk (st := s_check_places_) l_check_places_ c_check_places_ k_check_places_
  have g_check_places_ := PySem.W.mg_of X G a_check_places_
  have b_check_places_ := F_check_places_.binds (ps := ["places"]) fun _ _ _ _ _ _ us hl => match us, hl with | [_], _ => rfl
  have F_thread := fun_mk (st := s_thread) l_thread c_thread k_thread
  have g_thread := PySem.W.mg_of X G a_thread
  have b_thread := F_thread.binds (ps := ["places"]) fun _ _ _ _ _ _ us hl => match us, hl with | [_], _ => rfl
  have F_sign := fun_mk (st := s_sign) l_sign c_sign k_sign
  have g_sign := PySem.W.mg_of X G a_sign
  have b_sign := F_sign.binds (ps := ["places"]) fun _ _ _ _ _ _ us hl => match us, hl with | [_], _ => rfl
  have F_longest_fall := fun_mk (st := s_longest_fall) l_longest_fall c_longest_fall k_longest_fall
  have g_longest_fall := PySem.W.mg_of X G a_longest_fall
  have b_longest_fall := F_longest_fall.binds (ps := ["places"]) fun _ _ _ _ _ _ us hl => match us, hl with | [_], _ => rfl
  have F_arrangement := fun_mk (st := s_arrangement) l_arrangement c_arrangement k_arrangement
  have g_arrangement := PySem.W.mg_of X G a_arrangement
  have b_arrangement := F_arrangement.binds (ps := ["diagram"]) fun _ _ _ _ _ _ us hl => match us, hl with | [_], _ => rfl
  have F_law_places := fun_mk (st := s_law_places) l_law_places c_law_places k_law_places
  have g_law_places := PySem.W.mg_of X G a_law_places
  have b_law_places := F_law_places.binds (ps := ["draws", "most"]) fun _ _ _ _ _ _ us hl => match us, hl with | [_, _], _ => rfl
  have F_law_thread := fun_mk (st := s_law_thread) l_law_thread c_law_thread k_law_thread
  have g_law_thread := PySem.W.mg_of X G a_law_thread
  have b_law_thread := F_law_thread.binds (ps := ["places"]) fun _ _ _ _ _ _ us hl => match us, hl with | [_], _ => rfl
  have F_law_descents := fun_mk (st := s_law_descents) l_law_descents c_law_descents k_law_descents
  have g_law_descents := PySem.W.mg_of X G a_law_descents
  have b_law_descents := F_law_descents.binds (ps := ["places"]) fun _ _ _ _ _ _ us hl => match us, hl with | [_], _ => rfl
  have F_law_falls := fun_mk (st := s_law_falls) l_law_falls c_law_falls k_law_falls
  have g_law_falls := PySem.W.mg_of X G a_law_falls
  have b_law_falls := F_law_falls.binds (ps := ["places"]) fun _ _ _ _ _ _ us hl => match us, hl with | [_], _ => rfl
  have F_law_depth := fun_mk (st := s_law_depth) l_law_depth c_law_depth k_law_depth
  have g_law_depth := PySem.W.mg_of X G a_law_depth
  have b_law_depth := F_law_depth.binds (ps := ["places"]) fun _ _ _ _ _ _ us hl => match us, hl with | [_], _ => rfl
  have F_law_marked := fun_mk (st := s_law_marked) l_law_marked c_law_marked k_law_marked
  have g_law_marked := PySem.W.mg_of X G a_law_marked
  have b_law_marked := F_law_marked.binds (ps := ["n", "m", "marks"]) fun _ _ _ _ _ _ us hl => match us, hl with | [_, _, _], _ => rfl
  have F_law_belongs := fun_mk (st := s_law_belongs) l_law_belongs c_law_belongs k_law_belongs
  have g_law_belongs := PySem.W.mg_of X G a_law_belongs
  have b_law_belongs := F_law_belongs.binds (ps := ["family", "diagram"]) fun _ _ _ _ _ _ us hl => match us, hl with | [_, _], _ => rfl
  have F_law_all := fun_mk (st := s_law_all) l_law_all c_law_all k_law_all
  have g_law_all := PySem.W.mg_of X G a_law_all
  have b_law_all := F_law_all.binds (ps := ["family", "n", "m"]) fun _ _ _ _ _ _ us hl => match us, hl with | [_, _, _], _ => rfl
  have F_law_kind := fun_mk (st := s_law_kind) l_law_kind c_law_kind k_law_kind
  have g_law_kind := PySem.W.mg_of X G a_law_kind
  have b_law_kind := F_law_kind.binds (ps := ["error"]) fun _ _ _ _ _ _ us hl => match us, hl with | [_], _ => rfl
  have F_law_told := fun_mk (st := s_law_told) l_law_told c_law_told k_law_told
  have g_law_told := PySem.W.mg_of X G a_law_told
  have b_law_told := F_law_told.binds (ps := ["way", "thing"]) fun _ _ _ _ _ _ us hl => match us, hl with | [_, _], _ => rfl
  have F_law := fun_mk (st := s_law) l_law c_law k_law
  have g_law := PySem.W.mg_of X G a_law
  have b_law := F_law.binds (ps := ["script"]) fun _ _ _ _ _ _ us hl => match us, hl with | [_], _ => rfl
  have z_int := PySem.W.mg_none_of X G zn_int
  have z_range := PySem.W.mg_none_of X G zn_range
  have z_len := PySem.W.mg_none_of X G zn_len
  have z_list := PySem.W.mg_none_of X G zn_list
  have z_tuple := PySem.W.mg_none_of X G zn_tuple
  have z_max := PySem.W.mg_none_of X G zn_max
  have z_min := PySem.W.mg_none_of X G zn_min
  have z_all := PySem.W.mg_none_of X G zn_all
  have z_sorted := PySem.W.mg_none_of X G zn_sorted
  have z_isinstance := PySem.W.mg_none_of X G zn_isinstance
  have z_enumerate := PySem.W.mg_none_of X G zn_enumerate
  have z_sum := PySem.W.mg_none_of X G zn_sum
  have z_str := PySem.W.mg_none_of X G zn_str
  have z_repr := PySem.W.mg_none_of X G zn_repr
  have z_set := PySem.W.mg_none_of X G zn_set
  have E_BadNumber : ErrC K mg "BadNumber" CB := ⟨PySem.W.mg_of X G n_BadNumber, x_BadNumber, kc_BadNumber, bc_BadNumber, tc_BadNumber⟩
  have E_NotDiagram : ErrC K mg "NotDiagram" CD := ⟨PySem.W.mg_of X G n_NotDiagram, x_NotDiagram, kc_NotDiagram, bc_NotDiagram, tc_NotDiagram⟩
  have E_TooLarge : ErrC K mg "TooLarge" CT := ⟨PySem.W.mg_of X G n_TooLarge, x_TooLarge, kc_TooLarge, bc_TooLarge, tc_TooLarge⟩
  have E_NotFamily : ErrC K mg "NotFamily" CF := ⟨PySem.W.mg_of X G n_NotFamily, x_NotFamily, kc_NotFamily, bc_NotFamily, tc_NotFamily⟩
  have m_MOST_ON_A_SIDE := PySem.W.mg_of X G n_MOST_ON_A_SIDE
  have m_MOST_POINTS := PySem.W.mg_of X G n_MOST_POINTS
  have m_MOST_PLACES := PySem.W.mg_of X G n_MOST_PLACES
  have m_FAMILIES := PySem.W.mg_of X G n_FAMILIES
  have tF : ∀ H, SqT K H aF (fams.map V.str) := fun H => .inr ⟨_, _, _, l_FAMILIES, rfl, rfl, (by show 6 ≤ sizeLine; decide), .cons ⟨_, rfl⟩ (.cons ⟨_, rfl⟩ (.cons ⟨_, rfl⟩ (.cons ⟨_, rfl⟩ (.cons ⟨_, rfl⟩ (.cons ⟨_, rfl⟩ (.nil))))))⟩
  have m_WorthError := PySem.W.mg_of X G n_WorthError
  have m_NotWorld := PySem.W.mg_of X G n_NotWorld
  have m_NotFamily := PySem.W.mg_of X G n_NotFamily
  have m_NotDiagram := PySem.W.mg_of X G n_NotDiagram
  have m_NotNumber := PySem.W.mg_of X G n_NotNumber
  have m_BadNumber := PySem.W.mg_of X G n_BadNumber
  have m_TooLarge := PySem.W.mg_of X G n_TooLarge
  have I_NotDiagram : ExcC K CD := ⟨hg_NotDiagram, hk_NotDiagram, bc_NotDiagram, hd_NotDiagram, ha_NotDiagram, hn_cls, ht_cls, hm_NotDiagram⟩
  have J_NotDiagram : KindE K CE X_NotWorld CF CD X_NotNumber CB CT CD "diagram" := ⟨I_NotDiagram, tE_NotDiagram, by decide, t_NotDiagram_NotWorld, t_NotDiagram_NotFamily, t_NotDiagram_NotDiagram, t_NotDiagram_NotNumber, t_NotDiagram_BadNumber, t_NotDiagram_TooLarge⟩
  have I_BadNumber : ExcC K CB := ⟨hg_BadNumber, hk_BadNumber, bc_BadNumber, hd_BadNumber, ha_BadNumber, hn_cls, ht_cls, hm_BadNumber⟩
  have J_BadNumber : KindE K CE X_NotWorld CF CD X_NotNumber CB CT CB "number" := ⟨I_BadNumber, tE_BadNumber, by decide, t_BadNumber_NotWorld, t_BadNumber_NotFamily, t_BadNumber_NotDiagram, t_BadNumber_NotNumber, t_BadNumber_BadNumber, t_BadNumber_TooLarge⟩
  have T_told : ErrE K mg CE X_NotWorld CF CD X_NotNumber CB CT := ⟨PySem.W.mg_of X G n_WorthError, ebc, ehd, ety, sE_NotDiagram, sE_BadNumber, J_NotDiagram, J_BadNumber⟩
  have n_thread_sign : f_thread ≠ f_sign := fun e => by
    subst e
    have h := l_thread.symm.trans l_sign
    simp [PySem.W.fnOf] at h
    exact absurd h.2.2.1.1 (by decide +kernel)
  have n_thread_longest_fall : f_thread ≠ f_longest_fall := fun e => by
    subst e
    have h := l_thread.symm.trans l_longest_fall
    simp [PySem.W.fnOf] at h
    exact absurd h.2.2.1.1 (by decide +kernel)
  have n_thread_arrangement : f_thread ≠ f_arrangement := fun e => by
    subst e
    have h := l_thread.symm.trans l_arrangement
    simp [PySem.W.fnOf] at h
    exact absurd h.2.2.1.1 (by decide +kernel)
  have n_sign_longest_fall : f_sign ≠ f_longest_fall := fun e => by
    subst e
    have h := l_sign.symm.trans l_longest_fall
    simp [PySem.W.fnOf] at h
    exact absurd h.2.2.1.1 (by decide +kernel)
  have n_sign_arrangement : f_sign ≠ f_arrangement := fun e => by
    subst e
    have h := l_sign.symm.trans l_arrangement
    simp [PySem.W.fnOf] at h
    exact absurd h.2.2.1.1 (by decide +kernel)
  have n_longest_fall_arrangement : f_longest_fall ≠ f_arrangement := fun e => by
    subst e
    have h := l_longest_fall.symm.trans l_arrangement
    simp [PySem.W.fnOf] at h
    exact absurd h.2.2.1.1 (by decide +kernel)
  refine ⟨PySem.W.fnOf "law" "law" (defArgs s_law) (defBody s_law) (defScope s_law) .none kV_law dc_law pm_law an_law cd_law ct_law, fun s v => .of_eq rfl, fun base _ _ => ?_⟩
  have G_law_number := ok_plain (P := P) (w := w) (mg := mg) (base := base) (F := F_law_number)
  have G_law_next := ok_next (P := P) (w := w) (mg := mg) (base := base) (F := F_law_next)
  have G_law_draws := ok_draws (P := P) (w := w) (mg := mg) (base := base) (F := F_law_draws) (z_range := z_range) (z_int := z_int) (G_law_number := G_law_number) (g_law_number := g_law_number) (k_law_number := k_law_number) (b_law_number := b_law_number)
  have G_is_size_ := ok_is_size_ (P := P) (w := w) (mg := mg) (base := base) (F := F_is_size_) (m_MOST_ON_A_SIDE := m_MOST_ON_A_SIDE) (m_MOST_POINTS := m_MOST_POINTS)
  have G_is_diagram := ok_is_diagram (P := P) (w := w) (mg := mg) (base := base) (F := F_is_diagram) (z_len := z_len) (z_list := z_list) (z_range := z_range) (z_sorted := z_sorted) (z_all := z_all) (G_is_size_ := G_is_size_) (g_is_size_ := g_is_size_) (k_is_size_ := k_is_size_) (b_is_size_ := b_is_size_)
  have G_check_diagram := ok_check_diagram (P := P) (w := w) (mg := mg) (base := base) (F := F_check_diagram) (T := E_NotDiagram) (G_is_diagram := G_is_diagram) (g_is_diagram := g_is_diagram) (k_is_diagram := k_is_diagram) (b_is_diagram := b_is_diagram)
  have G_check_family := ok_check_family (P := P) (w := w) (mg := mg) (base := base) (F := F_check_family) (T := E_NotFamily) (m_FAMILIES := m_FAMILIES) (tF := tF)
  have G_is_strand_ := ok_is_strand_ (P := P) (w := w) (mg := mg) (base := base) (F := F_is_strand_) (z_len := z_len)
  have G_is_block_size_ := ok_is_block_size_ (P := P) (w := w) (mg := mg) (base := base) (F := F_is_block_size_)
  have G_is_block_of_ := ok_is_block_of_ (P := P) (w := w) (mg := mg) (base := base) (F := F_is_block_of_) (z_len := z_len) (G_is_strand_ := G_is_strand_) (g_is_strand_ := g_is_strand_) (k_is_strand_ := k_is_strand_) (b_is_strand_ := b_is_strand_) (G_is_block_size_ := G_is_block_size_) (g_is_block_size_ := g_is_block_size_) (k_is_block_size_ := k_is_block_size_) (b_is_block_size_ := b_is_block_size_)
  have G_is_in := ok_is_in (P := P) (w := w) (mg := mg) (base := base) (F := F_is_in) (z_all := z_all) (G_check_family := G_check_family) (g_check_family := g_check_family) (k_check_family := k_check_family) (b_check_family := b_check_family) (G_check_diagram := G_check_diagram) (g_check_diagram := g_check_diagram) (k_check_diagram := k_check_diagram) (b_check_diagram := b_check_diagram) (G_is_block_of_ := G_is_block_of_) (g_is_block_of_ := g_is_block_of_) (k_is_block_of_ := k_is_block_of_) (b_is_block_of_ := b_is_block_of_)
  have G_goes_on_ := ok_goes_on_ (P := P) (w := w) (mg := mg) (base := base) (F := F_goes_on_)
  have G_longest_fall_ := ok_longest_fall_ (P := P) (w := w) (mg := mg) (base := base) (F := F_longest_fall_) (z_len := z_len) (z_range := z_range) (G_goes_on_ := G_goes_on_) (g_goes_on_ := g_goes_on_) (k_goes_on_ := k_goes_on_) (b_goes_on_ := b_goes_on_)
  have G_descents_ := ok_descents_ (P := P) (w := w) (mg := mg) (base := base) (F := F_descents_) (z_len := z_len) (z_enumerate := z_enumerate)
  have G_sign_ := ok_sign_ (P := P) (w := w) (mg := mg) (base := base) (F := F_sign_) (G_descents_ := G_descents_) (g_descents_ := g_descents_) (k_descents_ := k_descents_) (b_descents_ := b_descents_)
  have G_thread_ := ok_thread_ (P := P) (w := w) (mg := mg) (base := base) (F := F_thread_) (z_len := z_len) (z_enumerate := z_enumerate) (z_tuple := z_tuple)
  have G_check_places_ := ok_check_places_ (P := P) (w := w) (mg := mg) (base := base) (F := F_check_places_) (T := E_NotDiagram) (T2 := E_BadNumber) (m_MOST_PLACES := m_MOST_PLACES) (z_sorted := z_sorted) (z_list := z_list) (z_range := z_range) (z_len := z_len)
  have G_thread := ok_thread (P := P) (w := w) (mg := mg) (base := base) (F := F_thread) (G_check_places_ := G_check_places_) (g_check_places_ := g_check_places_) (k_check_places_ := k_check_places_) (b_check_places_ := b_check_places_) (G_thread_ := G_thread_) (g_thread_ := g_thread_) (k_thread_ := k_thread_) (b_thread_ := b_thread_)
  have G_sign := ok_sign (P := P) (w := w) (mg := mg) (base := base) (F := F_sign) (G_check_places_ := G_check_places_) (g_check_places_ := g_check_places_) (k_check_places_ := k_check_places_) (b_check_places_ := b_check_places_) (G_sign_ := G_sign_) (g_sign_ := g_sign_) (k_sign_ := k_sign_) (b_sign_ := b_sign_)
  have G_longest_fall := ok_longest_fall (P := P) (w := w) (mg := mg) (base := base) (F := F_longest_fall) (G_check_places_ := G_check_places_) (g_check_places_ := g_check_places_) (k_check_places_ := k_check_places_) (b_check_places_ := b_check_places_) (G_longest_fall_ := G_longest_fall_) (g_longest_fall_ := g_longest_fall_) (k_longest_fall_ := k_longest_fall_) (b_longest_fall_ := b_longest_fall_)
  have G_arrangement := ok_arrangement (P := P) (w := w) (mg := mg) (base := base) (F := F_arrangement) (T := E_BadNumber) (z_tuple := z_tuple) (G_is_in := G_is_in) (g_is_in := g_is_in) (k_is_in := k_is_in) (b_is_in := b_is_in)
  have G_law_places := ok_law_places (P := P) (w := w) (mg := mg) (base := base) (F := F_law_places) (z_int := z_int) (z_len := z_len) (z_list := z_list) (z_range := z_range) (z_tuple := z_tuple) (G_law_next := G_law_next) (g_law_next := g_law_next) (k_law_next := k_law_next) (b_law_next := b_law_next)
  have G_law_thread := ok_law_thread (P := P) (w := w) (mg := mg) (base := base) (F := F_law_thread) (z_len := z_len) (z_range := z_range) (z_tuple := z_tuple)
  have G_law_descents := ok_law_descents (P := P) (w := w) (mg := mg) (base := base) (F := F_law_descents) (z_len := z_len) (z_range := z_range)
  have G_law_falls := ok_law_falls (P := P) (w := w) (mg := mg) (base := base) (F := F_law_falls) (z_len := z_len) (z_range := z_range)
  have G_law_depth := ok_law_depth (P := P) (w := w) (mg := mg) (base := base) (F := F_law_depth) (z_len := z_len) (z_max := z_max) (G_law_falls := G_law_falls) (g_law_falls := g_law_falls) (k_law_falls := k_law_falls) (b_law_falls := b_law_falls)
  have G_law_marked := ok_law_marked (P := P) (w := w) (mg := mg) (base := base) (F := F_law_marked) (z_tuple := z_tuple) (z_range := z_range) (z_len := z_len)
  have G_law_belongs := ok_law_belongs (P := P) (w := w) (mg := mg) (base := base) (F := F_law_belongs) (z_len := z_len) (z_int := z_int)
  have G_law_all := ok_law_all (P := P) (w := w) (mg := mg) (base := base) (F := F_law_all) (z_range := z_range) (z_max := z_max) (G_law_marked := G_law_marked) (g_law_marked := g_law_marked) (k_law_marked := k_law_marked) (b_law_marked := b_law_marked) (G_law_belongs := G_law_belongs) (g_law_belongs := g_law_belongs) (k_law_belongs := k_law_belongs) (b_law_belongs := b_law_belongs)
  have G_law_kind := ok_law_kind (P := P) (w := w) (mg := mg) (base := base) (F := F_law_kind) (m_WorthError := m_WorthError) (m_NotWorld := m_NotWorld) (m_NotFamily := m_NotFamily) (m_NotDiagram := m_NotDiagram) (m_NotNumber := m_NotNumber) (m_BadNumber := m_BadNumber) (m_TooLarge := m_TooLarge) (z_isinstance := z_isinstance) (z_len := z_len)
  have G_law_told := ok_law_told (P := P) (w := w) (mg := mg) (base := base) (F := F_law_told) (T := T_told) (G_thread := G_thread) (g_thread := g_thread) (k_thread := k_thread) (b_thread := b_thread) (G_sign := G_sign) (g_sign := g_sign) (k_sign := k_sign) (b_sign := b_sign) (G_longest_fall := G_longest_fall) (g_longest_fall := g_longest_fall) (k_longest_fall := k_longest_fall) (b_longest_fall := b_longest_fall) (G_arrangement := G_arrangement) (g_arrangement := g_arrangement) (k_arrangement := k_arrangement) (b_arrangement := b_arrangement) (G_law_kind := G_law_kind) (g_law_kind := g_law_kind) (k_law_kind := k_law_kind) (b_law_kind := b_law_kind) (n_thread_sign := n_thread_sign) (n_thread_longest_fall := n_thread_longest_fall) (n_thread_arrangement := n_thread_arrangement) (n_sign_longest_fall := n_sign_longest_fall) (n_sign_arrangement := n_sign_arrangement) (n_longest_fall_arrangement := n_longest_fall_arrangement)
  exact ok_law (P := P) (w := w) (mg := mg) (base := base) (F := F_law) (z_int := z_int) (z_range := z_range) (z_repr := z_repr) (z_len := z_len) (z_min := z_min) (z_tuple := z_tuple) (G_law_draws := G_law_draws) (g_law_draws := g_law_draws) (k_law_draws := k_law_draws) (b_law_draws := b_law_draws) (G_law_next := G_law_next) (g_law_next := g_law_next) (k_law_next := k_law_next) (b_law_next := b_law_next) (G_law_places := G_law_places) (g_law_places := g_law_places) (k_law_places := k_law_places) (b_law_places := b_law_places) (G_law_thread := G_law_thread) (g_law_thread := g_law_thread) (k_law_thread := k_law_thread) (b_law_thread := b_law_thread) (G_law_told := G_law_told) (g_law_told := g_law_told) (k_law_told := k_law_told) (b_law_told := b_law_told) (G_law_descents := G_law_descents) (g_law_descents := g_law_descents) (k_law_descents := k_law_descents) (b_law_descents := b_law_descents) (G_law_depth := G_law_depth) (g_law_depth := g_law_depth) (k_law_depth := k_law_depth) (b_law_depth := b_law_depth) (G_law_falls := G_law_falls) (g_law_falls := g_law_falls) (k_law_falls := k_law_falls) (b_law_falls := b_law_falls) (G_longest_fall := G_longest_fall) (g_longest_fall := g_longest_fall) (k_longest_fall := k_longest_fall) (b_longest_fall := b_longest_fall) (G_sign := G_sign) (g_sign := g_sign) (k_sign := k_sign) (b_sign := b_sign) (G_law_all := G_law_all) (g_law_all := g_law_all) (k_law_all := k_law_all) (b_law_all := b_law_all) (G_law_belongs := G_law_belongs) (g_law_belongs := g_law_belongs) (k_law_belongs := k_law_belongs) (b_law_belongs := b_law_belongs)
end T
open PySem PySem.W PyProof.Rows
set_option maxHeartbeats 0 in
theorem PySem.Challenge.cw_threadworth_k68_arrangements_signs_and_f_holds : PySem.Challenge.rw_threadworth_k68_arrangements_signs_and_f.Holds := by
  w_on; o_law; k_head; (case hw => w_witness2)
  k_fill
  refine L2.walk_ofG (l := PySem.Challenge.rw_threadworth_k68_arrangements_signs_and_f) (n := 63) (k := 8) (x := "script") (sp := fun w => T.spLaw _) rfl (by decide) rfl ⟨rfl, by decide, by decide⟩ (fun w h Y => PySem.W.kIn_of Y) ?F (fun _ _ a ns hl hS => ⟨a, ns, rfl, hS, hl, fun _ => rfl⟩)
  case F =>
    intro w mg fa h KX G hmg
    refine' T.all_mk KX G hmg ?a_law_number ?l_law_number ?c_law_number ?k_law_number ?a_law_next ?l_law_next ?c_law_next ?k_law_next ?a_law_draws ?l_law_draws ?c_law_draws ?k_law_draws ?a_is_size_ ?l_is_size_ ?c_is_size_ ?k_is_size_ ?a_is_diagram ?l_is_diagram ?c_is_diagram ?k_is_diagram ?a_check_diagram ?l_check_diagram ?c_check_diagram ?k_check_diagram ?a_check_family ?l_check_family ?c_check_family ?k_check_family ?a_is_strand_ ?l_is_strand_ ?c_is_strand_ ?k_is_strand_ ?a_is_block_size_ ?l_is_block_size_ ?c_is_block_size_ ?k_is_block_size_ ?a_is_block_of_ ?l_is_block_of_ ?c_is_block_of_ ?k_is_block_of_ ?a_is_in ?l_is_in ?c_is_in ?k_is_in ?a_goes_on_ ?l_goes_on_ ?c_goes_on_ ?k_goes_on_ ?a_longest_fall_ ?l_longest_fall_ ?c_longest_fall_ ?k_longest_fall_ ?a_descents_ ?l_descents_ ?c_descents_ ?k_descents_ ?a_sign_ ?l_sign_ ?c_sign_ ?k_sign_ ?a_thread_ ?l_thread_ ?c_thread_ ?k_thread_ ?a_check_places_ ?l_check_places_ ?c_check_places_ ?k_check_places_ ?a_thread ?l_thread ?c_thread ?k_thread ?a_sign ?l_sign ?c_sign ?k_sign ?a_longest_fall ?l_longest_fall ?c_longest_fall ?k_longest_fall ?a_arrangement ?l_arrangement ?c_arrangement ?k_arrangement ?a_law_places ?l_law_places ?c_law_places ?k_law_places ?a_law_thread ?l_law_thread ?c_law_thread ?k_law_thread ?a_law_descents ?l_law_descents ?c_law_descents ?k_law_descents ?a_law_falls ?l_law_falls ?c_law_falls ?k_law_falls ?a_law_depth ?l_law_depth ?c_law_depth ?k_law_depth ?a_law_marked ?l_law_marked ?c_law_marked ?k_law_marked ?a_law_belongs ?l_law_belongs ?c_law_belongs ?k_law_belongs ?a_law_all ?l_law_all ?c_law_all ?k_law_all ?a_law_kind ?l_law_kind ?c_law_kind ?k_law_kind ?a_law_told ?l_law_told ?c_law_told ?k_law_told ?a_law ?l_law ?c_law ?k_law ?zn_int ?zn_range ?zn_len ?zn_list ?zn_tuple ?zn_max ?zn_min ?zn_all ?zn_sorted ?zn_isinstance ?zn_enumerate ?zn_sum ?zn_str ?zn_repr ?zn_set ?n_BadNumber ?x_BadNumber ?kc_BadNumber ?bc_BadNumber ?tc_BadNumber ?n_NotDiagram ?x_NotDiagram ?kc_NotDiagram ?bc_NotDiagram ?tc_NotDiagram ?n_TooLarge ?x_TooLarge ?kc_TooLarge ?bc_TooLarge ?tc_TooLarge ?n_NotFamily ?x_NotFamily ?kc_NotFamily ?bc_NotFamily ?tc_NotFamily ?n_MOST_ON_A_SIDE ?n_MOST_POINTS ?n_MOST_PLACES ?n_FAMILIES ?l_FAMILIES ?n_WorthError ?ebc ?ehd ?ety ?hn_cls ?ht_cls ?n_NotWorld ?n_NotNumber ?hg_NotDiagram ?hk_NotDiagram ?hd_NotDiagram ?ha_NotDiagram ?hm_NotDiagram ?sE_NotDiagram ?tE_NotDiagram ?t_NotDiagram_NotWorld ?t_NotDiagram_NotFamily ?t_NotDiagram_NotDiagram ?t_NotDiagram_NotNumber ?t_NotDiagram_BadNumber ?t_NotDiagram_TooLarge ?hg_BadNumber ?hk_BadNumber ?hd_BadNumber ?ha_BadNumber ?hm_BadNumber ?sE_BadNumber ?tE_BadNumber ?t_BadNumber_NotWorld ?t_BadNumber_NotFamily ?t_BadNumber_NotDiagram ?t_BadNumber_NotNumber ?t_BadNumber_BadNumber ?t_BadNumber_TooLarge
    (case a_law_number => k_is); (case l_law_number => k_is); (case c_law_number => k_is); (case k_law_number => k_is); (case a_law_next => k_is); (case l_law_next => k_is); (case c_law_next => k_is); (case k_law_next => k_is)
    (case a_law_draws => k_is); (case l_law_draws => k_is); (case c_law_draws => k_is); (case k_law_draws => k_is); (case a_is_size_ => k_is); (case l_is_size_ => k_is); (case c_is_size_ => k_is); (case k_is_size_ => k_is)
    (case a_is_diagram => k_is); (case l_is_diagram => k_is); (case c_is_diagram => k_is); (case k_is_diagram => k_is); (case a_check_diagram => k_is); (case l_check_diagram => k_is); (case c_check_diagram => k_is); (case k_check_diagram => k_is)
    (case a_check_family => k_is); (case l_check_family => k_is); (case c_check_family => k_is); (case k_check_family => k_is); (case a_is_strand_ => k_is); (case l_is_strand_ => k_is); (case c_is_strand_ => k_is); (case k_is_strand_ => k_is)
    (case a_is_block_size_ => k_is); (case l_is_block_size_ => k_is); (case c_is_block_size_ => k_is); (case k_is_block_size_ => k_is); (case a_is_block_of_ => k_is); (case l_is_block_of_ => k_is); (case c_is_block_of_ => k_is); (case k_is_block_of_ => k_is)
    (case a_is_in => k_is); (case l_is_in => k_is); (case c_is_in => k_is); (case k_is_in => k_is); (case a_goes_on_ => k_is); (case l_goes_on_ => k_is); (case c_goes_on_ => k_is); (case k_goes_on_ => k_is)
    (case a_longest_fall_ => k_is); (case l_longest_fall_ => k_is); (case c_longest_fall_ => k_is); (case k_longest_fall_ => k_is); (case a_descents_ => k_is); (case l_descents_ => k_is); (case c_descents_ => k_is); (case k_descents_ => k_is)
    (case a_sign_ => k_is); (case l_sign_ => k_is); (case c_sign_ => k_is); (case k_sign_ => k_is); (case a_thread_ => k_is); (case l_thread_ => k_is); (case c_thread_ => k_is); (case k_thread_ => k_is)
    (case a_check_places_ => k_is); (case l_check_places_ => k_is); (case c_check_places_ => k_is); (case k_check_places_ => k_is); (case a_thread => k_is); (case l_thread => k_is); (case c_thread => k_is); (case k_thread => k_is)
    (case a_sign => k_is); (case l_sign => k_is); (case c_sign => k_is); (case k_sign => k_is); (case a_longest_fall => k_is); (case l_longest_fall => k_is); (case c_longest_fall => k_is); (case k_longest_fall => k_is)
    (case a_arrangement => k_is); (case l_arrangement => k_is); (case c_arrangement => k_is); (case k_arrangement => k_is); (case a_law_places => k_is); (case l_law_places => k_is); (case c_law_places => k_is); (case k_law_places => k_is)
    (case a_law_thread => k_is); (case l_law_thread => k_is); (case c_law_thread => k_is); (case k_law_thread => k_is); (case a_law_descents => k_is); (case l_law_descents => k_is); (case c_law_descents => k_is); (case k_law_descents => k_is)
    (case a_law_falls => k_is); (case l_law_falls => k_is); (case c_law_falls => k_is); (case k_law_falls => k_is); (case a_law_depth => k_is); (case l_law_depth => k_is); (case c_law_depth => k_is); (case k_law_depth => k_is)
    (case a_law_marked => k_is); (case l_law_marked => k_is); (case c_law_marked => k_is); (case k_law_marked => k_is); (case a_law_belongs => k_is); (case l_law_belongs => k_is); (case c_law_belongs => k_is); (case k_law_belongs => k_is)
    (case a_law_all => k_is); (case l_law_all => k_is); (case c_law_all => k_is); (case k_law_all => k_is); (case a_law_kind => k_is); (case l_law_kind => k_is); (case c_law_kind => k_is); (case k_law_kind => k_is)
    (case a_law_told => k_is); (case l_law_told => k_is); (case c_law_told => k_is); (case k_law_told => k_is); (case a_law => k_is); (case l_law => k_is); (case c_law => k_is); (case k_law => k_is)
    (case zn_int => k_is); (case zn_range => k_is); (case zn_len => k_is); (case zn_list => k_is); (case zn_tuple => k_is); (case zn_max => k_is); (case zn_min => k_is); (case zn_all => k_is)
    (case zn_sorted => k_is); (case zn_isinstance => k_is); (case zn_enumerate => k_is); (case zn_sum => k_is); (case zn_str => k_is); (case zn_repr => k_is); (case zn_set => k_is); (case n_BadNumber => k_is)
    (case x_BadNumber => k_exc); (case kc_BadNumber => k_is); (case bc_BadNumber => k_is); (case tc_BadNumber => k_is); (case n_NotDiagram => k_is); (case x_NotDiagram => k_exc); (case kc_NotDiagram => k_is); (case bc_NotDiagram => k_is)
    (case tc_NotDiagram => k_is); (case n_TooLarge => k_is); (case x_TooLarge => k_exc); (case kc_TooLarge => k_is); (case bc_TooLarge => k_is); (case tc_TooLarge => k_is); (case n_NotFamily => k_is); (case x_NotFamily => k_exc)
    (case kc_NotFamily => k_is); (case bc_NotFamily => k_is); (case tc_NotFamily => k_is); (case n_MOST_ON_A_SIDE => k_is); (case n_MOST_POINTS => k_is); (case n_MOST_PLACES => k_is); (case n_FAMILIES => k_is); (case l_FAMILIES => k_is)
    (case n_WorthError => k_is); (case ebc => k_is); (case ehd => k_is); (case ety => k_is); (case hn_cls => k_is); (case ht_cls => k_is); (case n_NotWorld => k_is); (case n_NotNumber => k_is)
    (case hg_NotDiagram => k_is); (case hk_NotDiagram => k_is); (case hd_NotDiagram => k_is); (case ha_NotDiagram => k_is); (case hm_NotDiagram => k_is); (case sE_NotDiagram => k_is); (case tE_NotDiagram => kit_is); (case t_NotDiagram_NotWorld => kit_is)
    (case t_NotDiagram_NotFamily => kit_is); (case t_NotDiagram_NotDiagram => kit_is); (case t_NotDiagram_NotNumber => kit_is); (case t_NotDiagram_BadNumber => kit_is); (case t_NotDiagram_TooLarge => kit_is); (case hg_BadNumber => k_is); (case hk_BadNumber => k_is); (case hd_BadNumber => k_is)
    (case ha_BadNumber => k_is); (case hm_BadNumber => k_is); (case sE_BadNumber => k_is); (case tE_BadNumber => kit_is); (case t_BadNumber_NotWorld => kit_is); (case t_BadNumber_NotFamily => kit_is); (case t_BadNumber_NotDiagram => kit_is); (case t_BadNumber_NotNumber => kit_is)
    (case t_BadNumber_BadNumber => kit_is); (case t_BadNumber_TooLarge => kit_is)
