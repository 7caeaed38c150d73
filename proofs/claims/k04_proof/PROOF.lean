import PyProof.Rows.All
import Wide.All
import OpenK.AllK
import Wide.FinOn
import PyProof.EqAt
import PyProof.EqKinds
import PyProof.TupleCall
import HandS.ForExc
import HandS.Comp
import HandS.Iter
import HandS.Gcd
import HandS.Wide
import HandS.Evl
import HandS.Defaults
import HandS.ExcIs
import HandS.TupAny
import HandS.TupMul
import HandS.Walk
import HandS.Rev
import HandS.TupAny
import HandS.TupMul
import HandS.Style
import PyProof.ReprRoads
import PyProof.ReprLen
import PyProof.CallFns
import PyProof.Rows.RegStrFacts
import KE.GoesMore
import PySem.Challenge.RW_threadworth_k04_sums_of_polynomials
set_option Elab.async false
set_option linter.all false
set_option maxRecDepth 100000
set_option maxHeartbeats 4000000
namespace T
open PySem PySem.Spec PyProof.Rows L2
/-! ### the mathematics of worlds and numbers -/
def primes : List Int := [2, 3, 5, 7, 11, 13, 17, 19, 23, 29, 31]
def isW (p d : Int) : Bool := if p = 0 then (if -20 ≤ d then decide (d ≤ 20) else false) else (if inV (.int p) (primes.map V.int) = true then (if 0 ≤ d then decide (d < p) else false) else false)
theorem inV_ints {p : Int} : ∀ {l : List Int}, inV (.int p) (l.map V.int) = true → p ∈ l
  | [], h => by cases h
  | x :: l, h => by
    have h1 : ((eqV (.int x) (.int p)) || inV (.int p) (l.map V.int)) = true := h
    rcases (Bool.or_eq_true _ _).mp h1 with h | h
    · have : x = p := of_decide_eq_true (show decide (x = p) = true by simpa [eqV] using h)
      rw [this]
      exact List.mem_cons_self
    · exact List.mem_cons_of_mem _ (inV_ints h)
theorem isW_prime {p d : Int} (h : isW p d = true) (hp : p ≠ 0) : p ∈ primes ∧ 0 ≤ d ∧ d < p := by
  unfold isW at h
  rw [if_neg hp] at h
  by_cases e : inV (.int p) (primes.map V.int) = true
  · rw [if_pos e] at h
    by_cases e2 : 0 ≤ d
    · rw [if_pos e2] at h
      exact ⟨inV_ints e, e2, of_decide_eq_true h⟩
    · rw [if_neg e2] at h
      cases h
  · rw [if_neg e] at h
    cases h
theorem prime_pos {p : Int} (h : p ∈ primes) : 2 ≤ p ∧ p ≤ 31 := by
  simp only [primes, List.mem_cons, List.not_mem_nil, or_false] at h
  omega
theorem inv_exN : ∀ p ∈ [2, 3, 5, 7, 11, 13, 17, 19, 23, 29, 31], ∀ r, r < p → r ≠ 0 → ∃ k, k < p ∧ (k * r) % p = 1 := by decide +kernel
theorem inv_ex {p : Int} (hp : p ∈ primes) {r : Int} (h0 : 0 ≤ r) (h1 : r < p) (hr : r ≠ 0) : ∃ k : Int, 1 ≤ k ∧ k < p ∧ k * r % p = 1 := by
  obtain ⟨n, rfl⟩ := Int.eq_ofNat_of_zero_le (show 0 ≤ p by have := prime_pos hp; omega)
  obtain ⟨m, rfl⟩ := Int.eq_ofNat_of_zero_le h0
  have hn : n ∈ [2, 3, 5, 7, 11, 13, 17, 19, 23, 29, 31] := by
    simp only [primes, List.mem_cons, List.not_mem_nil, or_false] at hp ⊢
    omega
  obtain ⟨k, hk, e⟩ := inv_exN n hn m (by omega) (by omega)
  refine ⟨(k : Int), ?_, by omega, ?_⟩
  · rcases Nat.eq_zero_or_pos k with z | z
    · subst z
      rw [Nat.zero_mul, Nat.zero_mod] at e
      cases e
    · omega
  · have : ((k * m % n : Nat) : Int) = ((1 : Nat) : Int) := by rw [e]
    rw [← Int.natCast_mul, ← Int.natCast_emod, e]
    rfl
/-- lowest terms -/
def gI (a b : Int) : Int := ((Nat.gcd a.natAbs b.natAbs : Nat) : Int)
def low (a b : Int) : Int × Int := if b < 0 then ((-a) / gI a b, (-b) / gI a b) else (a / gI a b, b / gI a b)
theorem gI_pos {a b : Int} (hb : b ≠ 0) : 0 < gI a b := by
  have : 0 < Nat.gcd a.natAbs b.natAbs := Nat.gcd_pos_of_pos_right _ (by omega)
  unfold gI
  omega
theorem gI_le {a b : Int} (hb : b ≠ 0) : gI a b ≤ b.natAbs := by
  have := Nat.gcd_le_right (m := a.natAbs) (n := b.natAbs) (by omega)
  unfold gI
  omega
theorem fdiv_negg (a g : Int) (hg : 0 ≤ g) : a.fdiv (-g) = (-a) / g := by
  rw [← Int.fdiv_eq_ediv_of_nonneg _ hg, ← Int.neg_fdiv_neg (-a) g, Int.neg_neg]
/-- the number a / b -/
def bad (p b : Int) : Prop := b = 0 ∨ (0 < p ∧ b % p = 0)
def IsNum (p a b x y : Int) : Prop := (0 < p ∧ y = 1 ∧ 0 ≤ x ∧ x < p ∧ (x * b - a) % p = 0) ∨ (¬ 0 < p ∧ (x, y) = low a b)
theorem inv_solves {p a b k : Int} (hp : 0 < p) (e : k * (b % p) % p = 1) (h1 : 1 < p) : ((a * k % p) * b - a) % p = 0 := by
  have e1 : (k * b) % p = 1 := by
    rw [Int.mul_emod, Int.emod_emod_of_dvd _ (Int.dvd_refl p), ← Int.mul_emod] at e
    exact e
  have d1 : p ∣ k * b - 1 := by
    apply Int.dvd_of_emod_eq_zero
    rw [Int.sub_emod, e1, Int.emod_eq_of_lt (by omega) h1]
    simp
  have d2 : p ∣ a * k - a * k % p := Int.dvd_self_sub_emod
  apply Int.emod_eq_zero_of_dvd
  have : (a * k % p) * b - a = a * (k * b - 1) - (a * k - a * k % p) * b := by
    rw [Int.mul_sub, Int.sub_mul, Int.mul_assoc]
    omega
  rw [this]
  exact Int.dvd_sub (Int.dvd_mul_of_dvd_right d1) (Int.dvd_mul_of_dvd_left d2)
theorem num_unique {p a b x y x' y' : Int} (hp : p = 0 ∨ p ∈ primes) (hb : ¬ bad p b) (h : IsNum p a b x y) (h' : IsNum p a b x' y') : x = x' ∧ y = y' := by
  rcases h with ⟨h0, e1, l1, u1, m1⟩ | ⟨h0, e1⟩
  · rcases h' with ⟨_, e2, l2, u2, m2⟩ | ⟨h0', _⟩
    · refine ⟨?_, e1.trans e2.symm⟩
      rcases hp with rfl | hp
      · omega
      · have hp2 := prime_pos hp
        have hbp : b % p ≠ 0 := fun z => hb (.inr ⟨h0, z⟩)
        obtain ⟨k, k1, k2, ek⟩ := inv_ex hp (Int.emod_nonneg b (by omega)) (Int.emod_lt_of_pos b h0) hbp
        have e1 : (k * b) % p = 1 := by
          rw [Int.mul_emod, Int.emod_emod_of_dvd _ (Int.dvd_refl p), ← Int.mul_emod] at ek
          exact ek
        have d1 : p ∣ k * b - 1 := by
          apply Int.dvd_of_emod_eq_zero
          rw [Int.sub_emod, e1, Int.emod_eq_of_lt (show (0:Int) ≤ 1 by omega) (show (1:Int) < p by omega)]
          simp
        have d2 : p ∣ (x * b - a) - (x' * b - a) := Int.dvd_sub (Int.dvd_of_emod_eq_zero m1) (Int.dvd_of_emod_eq_zero m2)
        have d3 : p ∣ x - x' := by
          have e : x - x' = k * ((x * b - a) - (x' * b - a)) - (x - x') * (k * b - 1) := by
            have e3 : (x * b - a) - (x' * b - a) = (x - x') * b := by
              rw [Int.sub_mul]
              omega
            rw [e3, Int.mul_sub, Int.mul_one, ← Int.mul_assoc, Int.mul_comm k (x - x'), Int.mul_assoc]
            omega
          rw [e]
          exact Int.dvd_sub (Int.dvd_mul_of_dvd_right d2) (Int.dvd_mul_of_dvd_right d1)
        obtain ⟨c, ec⟩ := d3
        have hc : c = 0 := by
          rcases Int.lt_trichotomy c 0 with z | z | z
          · have : p * c ≤ p * (-1) := Int.mul_le_mul_of_nonneg_left (by omega) (by omega)
            omega
          · exact z
          · have : p * 1 ≤ p * c := Int.mul_le_mul_of_nonneg_left (by omega) (by omega)
            omega
        rw [hc, Int.mul_zero] at ec
        omega
    · exact absurd h0 h0'
  · rcases h' with ⟨h0', _⟩ | ⟨_, e2⟩
    · exact absurd h0' h0
    · have := e1.trans e2.symm
      exact ⟨congrArg Prod.fst this, congrArg Prod.snd this⟩
end T

/-! ### defs that are called where nothing is being shown (no repr is under way): what the law's own def may know -/
namespace L2
open PySem PySem.Spec PyProof.Rows
structure FnG (P : Program) (w : World) (K : PySem.W.Frag) (mg : Str → Option Value) (base : Heap) (k : Nat) (f : Addr) (fd : FuncData) (ps : List Str) (sp : Sp) : Prop where
  len : ∀ vs H Q E, sp vs H Q E → vs.length = ps.length
  run : ∀ (A : Around) (outer : List Env) (s : Shared) (H : Hp) (args : Args) (us : List Value) (vs : List V) (Q : VK) (E : XK), A.guards = some [] → Room k A → Env0 P w K mg base A outer s H →
    BindsTo s fd args (ps.zip us) → Vals vs us → sp vs H Q E → codeAny (model P w) A (.call (.ref f) args) (CR CX0 outer P w H s Q E) s
theorem CE_of {P : Program} {w : World} {K : PySem.W.Frag} {mg : Str → Option Value} {base : Heap} {N : List Str} {qual : Str} {scope : Scope} {f : Addr} {cdv : Value} {A : Around} {outer : List Env} {s s' : Shared} {H H' : Hp} {E : XK} {Q : VK} {σ' : St} {v : V} {u : Value}
    (J : Inv (cxOf CX0 P w K mg base N qual scope f cdv A outer s H E) [] σ' H' s') (rv : RelV v u) (q : Q v H') : CE outer P w H s Q u s' := ⟨v, H', J.os, J.bare, J.base, J.hok, rv, q⟩
theorem Fun.okG {P : Program} {w : World} {K : PySem.W.Frag} {mg : Str → Option Value} {base : Heap} {x qual : Str} {st : Stmt} {f : Addr} {fd : FuncData} {N ps : List Str} {k : Nat} {sp : Sp} (F : Fun K x qual st f fd) (S : FnScope N ps (defScope st))
    (len : ∀ vs H Q E, sp vs H Q E → vs.length = ps.length)
    (hbody : ∀ (cdv : Value) (A : Around) (outer : List Env) (s : Shared) (H : Hp) (vs : List V) (Q : VK) (E : XK), (A.deeper (envOfC qual (defScope st) s.heap.objs.size f cdv)).guards = some [] →
      Room k (A.deeper (envOfC qual (defScope st) s.heap.objs.size f cdv)) → sp vs H Q E →
      ∃ t, PSs (cxOf CX0 P w K mg base N qual (defScope st) f cdv A outer s H E).nox (defBody st) t ∧ t { nx := fun _ H' => Q .non H', rt := Q } (start N vs) H) : FnG P w K mg base (k + 1) f fd ps sp := by
  obtain ⟨oc, od, kV, doc, pm, an, cdv, ct, osl, rfl, lk, hcd⟩ := F.ex
  refine ⟨len, fun A outer s H args us vs Q E hgu hr e0 hb r hsp => ?_⟩
  have keep := fun b o (e : base.get? b = some o) => (e0.bs b o e).1
  have inK : K.In s.heap := e0.mod.kin.keeps keep
  refine codeAny_call_function hr.depth (inK _ _ lk) rfl S.co S.gen rfl (PySem.W.codeRec_of inK hcd) (hb _ _ _ _ ?_)
  refine wpAny_newFunctionEnv_cells S.kind (fun ⟨n, v⟩ hy => ?_) fun env he s1 xx => ?_
  · exact (S.par n (List.of_mem_zip hy).1).elim .inl fun q => .inr ⟨q, PySem.W.cellsFrom_some _ _ _ (.inl q)⟩
  · subst he
    refine ⟨(e0.mod.nolimit.keeps keep).keeps xx.toInCall.keep, codeAny_func ?_⟩
    obtain ⟨t, ht, hq⟩ := hbody cdv A outer s H vs Q E hgu (hr.deeper _) hsp
    have I := inv_start (CX := CX0) (E := E) S hr.hd e0 (len _ _ _ _ hsp) r xx
    refine wpAny_mono (ht.nox.run [] s1 _ H _ I hq) (fun fl s' hs => ?_) fun e s' hs => hs
    rcases fl with _ | _ | _ | u
    · obtain ⟨σ', H', J, q⟩ := hs
      exact CE_of (v := V.non) (u := Value.none) J rfl q
    · exact hs.elim fun _ z => z.elim fun _ z => z.2.elim
    · exact hs.elim fun _ z => z.elim fun _ z => z.2.elim
    · obtain ⟨v, σ', H', J, rv, q⟩ := hs
      exact CE_of J rv q
end L2

namespace L2
open PySem PySem.Spec PyProof.Rows
/-- the law's def, called by the claim's caller: nothing is being shown there -/
theorem goes_at {P : Program} {w : World} {K : PySem.W.Frag} {mg mb : Str → Option Value} {k : Nat} {fa a : Addr} {fd : FuncData} {x : Str} {sp : Sp} {t : Shared} {vs : List Value} {xs : List V} {H : Hp}
    (KX : K.In t.heap) (hns : t.heap.Ns mainGlobals mg) (hb : t.heap.Ns builtinsNs mb) (hbb : ∀ y : Str, y ≠ "__name__" → mb y = bootBuiltins y) (hlim : t.heap.NoLimit) (hg : t.gens = #[])
    (ha : t.heap.get? a = some { cls := .type "list", data := .seq vs.toArray }) (hr : Room k callerA)
    (F : ∀ base : Heap, K.In base → base.Ns mainGlobals mg → FnG P w K mg base k fa fd [x] sp) (hbind : ∀ (s : Shared) (u : Value), BindsTo s fd ⟨[u], []⟩ [(x, u)])
    (hO : Only H) (hsp : sp [.ref a] H (fun v _ => v = .bl true) fun _ _ _ => False) (hok : HOk P w H t.heap) (hA : ∀ b, H b ≠ none → b = a) (hK : H a ≠ none → K.lookup a = none) :
    codeAny (model P w) callerA (.call (.ref fa) ⟨[.ref a], []⟩) (fun r s' => r = .ok (.ret (.bool true)) ∧ OldK t.heap s'.heap ∧ s'.os = t.os ∧ AllBare s'.gens) t := by
  have free : ∀ {b : Addr}, (H b ≠ none → False) → H b = none := fun {b} z => by
    rcases e : H b with _ | u
    · rfl
    · exact (z (by rw [e]; exact fun q => nomatch q)).elim
  have ns : ∀ {b : Addr} {m : Str → Option Value}, t.heap.Ns b m → (hidT t.heap H).Ns b m := fun {b m} z => by
    obtain ⟨o, es, ep, e, d, r⟩ := z
    refine ⟨o, es, ep, hidT_get e (free fun z => ?_), d, r⟩
    rw [hA b z, ha] at e
    cases e
    cases d
  have inB : K.In (hidT t.heap H) := fun b o e => hidT_get (KX b o e) (free fun z => by
    have eb := hA b z
    rw [eb] at z e
    rw [hK z] at e
    cases e)
  obtain ⟨mc, l1, l2⟩ := hlim
  have env : Env0 P w K mg (hidT t.heap H) callerA [] t H := ⟨rfl, ⟨inB, ns hns, ⟨mb, ns hb, hbb⟩, ⟨mc, ns l1, l2⟩⟩, fun b o e => of_hidT e, Nat.le_of_eq (hidT_size _ _), trivial, fun b hb => (nomatch hb), hok, .of_eq hg⟩
  refine codeAny_mono ((F _ inB (ns hns)).run callerA [] t H _ [.ref a] [.ref a] _ _ rfl hr env (hbind t (.ref a)) (.cons rfl .nil) hsp) fun r s' h => ?_
  rcases r with e | fl
  · exact (show False from h).elim
  · rcases fl with _ | _ | _ | u
    · exact (show False from h).elim
    · exact (show False from h).elim
    · exact (show False from h).elim
    · obtain ⟨v, H', os, bare, un, hok', rv, q⟩ := h
      obtain rfl : v = .bl true := q
      obtain rfl : u = Value.bool true := rv
      refine ⟨rfl, OldK.of_keep fun b o e => ?_, os, bare⟩
      rcases hO b with z | ⟨ob, ys, z⟩
      · exact un.keep b o e z (fun z => nomatch z) (fun z => nomatch z)
      · have e1 := (hok b _ z).1
        rw [e] at e1
        rw [Option.some.inj e1]
        exact (hok' b _ (un.frzs b ob _ z)).1
theorem walk_ofG {l : PySem.W.OpenLaw} {n k : Nat} {q : Program} {loose : List Str} {XP : (Str → Option Value) → Heap → Prop} {YP : World → Heap → Prop} {d : DefRec} {K : Params → PySem.W.Frag} {sp : World → Sp} {x : Str}
    (hn : l.most = some n) (hn2 : n ≤ sizeLine) (hdf : d.params.defaults = []) (hr : Room k callerA) (hY : ∀ (w : World) (h : Heap), YP w h → (K w.params).In h)
    (F : ∀ (w : World) (mg : Str → Option Value) (fa : Addr) (h : Heap), (K w.params).In h → h.Ns mainGlobals mg → mg d.name = some (.ref fa) →
      ∃ fd : FuncData, (∀ (s : Shared) (u : Value), BindsTo s fd ⟨[u], []⟩ [(x, u)]) ∧ ∀ base : Heap, (K w.params).In base → base.Ns mainGlobals mg → FnG l.prog w (K w.params) mg base k fa fd [x] (sp w))
    (hsp : ∀ (w : World) (H : Hp) (a : Addr) (ns : List Int), ns.length ≤ n → SqL (K w.params) H a (ns.map V.int) → sp w [.ref a] H (fun v _ => v = .bl true) fun _ _ _ => False) :
    PySem.W.WalkO q loose XP YP l.row.toRowW d [] (fun f vs => PySem.call f vs) := by
  refine Att.attach_call hn hdf fun w s₀ t mg mb fa o pm cd doc a vs ns G Y ho hd hcd hmg hobj hints hlen hg => ?_
  have KX := hY w _ Y
  obtain ⟨fd, hb, hF⟩ := F w mg fa _ KX G.T.g hmg
  have rv : Vals (ns.map V.int) vs := vals_ints hints
  have lv := hints.length
  rcases hk : (K w.params).lookup a with _ | oa
  · refine goes_at (xs := ns.map V.int) (H := fun b => if b = a then some (.frz { cls := .type "list", data := .seq vs.toArray } (.lst (ns.map V.int))) else none) KX G.T.g G.T.b G.T.builtins G.T.nolimit hg hobj hr hF hb
      (fun b => ?_) (hsp w _ a ns hlen (.inl (.inr ⟨_, if_pos rfl⟩))) (fun b u z => ?_) (fun b z => Decidable.byContradiction fun c => z (if_neg c)) fun _ => hk
    · by_cases c : b = a
      · exact .inr ⟨_, _, if_pos c⟩
      · exact .inl (if_neg c)
    · by_cases c : b = a
      · have z' := (if_pos c).symm.trans z
        cases z'
        subst c
        exact ⟨hobj, by rw [List.length_map]; omega, vs, _, rv, hobj⟩
      · have z' := (if_neg c).symm.trans z
        cases z'
  · have e := (KX a oa hk).symm.trans hobj
    cases e
    exact goes_at (xs := ns.map V.int) (H := fun _ => none) KX G.T.g G.T.b G.T.builtins G.T.nolimit hg hobj hr hF hb (fun _ => .inl rfl)
      (hsp w _ a ns hlen (.inr ⟨_, vs.toArray, _, hk, rfl, rfl, rfl, by rw [List.size_toArray]; omega, rv⟩)) (fun b u z => nomatch z) (fun b z => (z rfl).elim) fun z => (z rfl).elim
end L2

namespace L2
open PySem PySem.Spec PyProof.Rows
/-! ### repr(data), where nothing is being shown -/
mutual
def wt : PyData → Nat
  | .none => 4
  | .bool _ => 5
  | .int _ => 1921
  | .str x => (reprText x).length
  | .list xs => wtAll xs + 3
  | .tuple xs => wtAll xs + 3
  | .dict _ => 0
def wtAll : List PyData → Nat
  | [] => 0
  | x :: xs => wt x + 2 + wtAll xs
end
mutual
theorem shown_wt : ∀ d : PyData, d.showable = true → d.hasDict = false → d.shown.length ≤ wt d
  | .none, _, _ => by simp only [PyData.shown, wt]; decide +kernel
  | .bool b, _, _ => by cases b <;> simp only [PyData.shown, wt] <;> decide +kernel
  | .int i, h, _ => by
    simp only [PyData.shown, wt]
    exact int_text_len_1921 (by simpa [PyData.showable] using h)
  | .str x, _, _ => by simp only [PyData.shown, wt]; exact Nat.le_refl _
  | .list xs, h, h2 => by
    simp only [PyData.showable] at h
    simp only [PyData.hasDict] at h2
    simp only [PyData.shown, wt]
    have h3 := shown_wtAll xs h h2
    have h4 := listText_len_le (PyData.shownAll xs)
    omega
  | .tuple xs, h, h2 => by
    simp only [PyData.showable] at h
    simp only [PyData.hasDict] at h2
    simp only [PyData.shown, wt]
    have h3 := shown_wtAll xs h h2
    have h4 := tupleText_len_le (PyData.shownAll xs)
    omega
  | .dict _, _, h2 => by simp [PyData.hasDict] at h2
theorem shown_wtAll : ∀ xs : List PyData, PyData.showableAll xs = true → PyData.hasDictAll xs = false → ((PyData.shownAll xs).map (·.length)).sum + 2 * (PyData.shownAll xs).length ≤ wtAll xs
  | [], _, _ => by simp [PyData.shownAll, wtAll]
  | x :: xs, h, h2 => by
    simp only [PyData.showableAll, Bool.and_eq_true] at h
    simp only [PyData.hasDictAll, Bool.or_eq_false_iff] at h2
    have h3 := shown_wt x h.1 h2.1
    have h4 := shown_wtAll xs h.2 h2.2
    simp only [PyData.shownAll, wtAll, List.map_cons, List.sum_cons, List.length_cons]
    omega
end
def rReprD (K : PySem.W.Frag) : List V → Hp → VK → Prop := fun xs H Q => ∃ x d, xs = [x] ∧ Dp K H x d ∧ SeqAt.shaped d = true ∧ d.showable = true ∧ wt d ≤ sizeLine ∧ Q (.str d.shown) H
theorem cr_reprD {X : Cx} (hg : X.A.guards = some []) (hu : X.A.units + 65 < cLine) : CallR X (.builtin "repr") (rReprD X.K) := by
  intro pins s σ H vs us Q I r h
  obtain ⟨x, d, rfl, hd, hs, hw, hz, q⟩ := h
  cases r with
  | cons rv rn =>
    rename_i v us'
    cases rn
    have hs' : (d.canLay0 && decide (d.depth ≤ 64)) = true := hs
    rw [Bool.and_eq_true] at hs'
    have nd := PyData.hasDict_of_canLay d hs'.1
    have dep : d.depth ≤ 64 := of_decide_eq_true hs'.2
    have sz := Nat.le_trans (shown_wt d hw nd) hz
    obtain ⟨as, rd⟩ := Dp.reads I d x v hd rv
    have ref : ∀ a : Addr, v = .ref a → wpAny (model X.prog X.w) X.A (call (.builtin "repr") [v]) (EP X pins σ Q) X.xe s := fun a e => by
      subst e
      exact repr_of_reads' rd hw (PyData.noDict_hsm nd) hg (by omega) (fun _ _ e => e) (fun h' u tk hk => ⟨.str _, H, I.kept (t' := tk) hk, ⟨u, rfl⟩, q⟩) sz
    cases hd with
    | non =>
      cases rv
      exact PySem.P.repr_of_none ⟨.str _, H, I.tok _, ⟨_, rfl⟩, by simpa only [PyData.shown] using q⟩
    | bl b =>
      cases rv
      exact PySem.P.repr_of_bool ⟨.str _, H, I.tok _, ⟨_, rfl⟩, by simpa only [PyData.shown] using q⟩
    | int i =>
      obtain ⟨t, rfl⟩ := rv
      exact PySem.P.repr_of_int (by simpa [PyData.showable] using hw) ⟨.str _, H, I.tok _, ⟨_, rfl⟩, by simpa only [PyData.shown] using q⟩
    | str y =>
      obtain ⟨t, rfl⟩ := rv
      exact PySem.P.repr_of_str ⟨.str _, H, I.tok _, ⟨_, rfl⟩, by simpa only [PyData.shown] using q⟩ (by simpa only [PyData.shown] using sz)
    | lst _ _ => exact ref _ rv
    | tup _ _ => exact ref _ rv
end L2

namespace T
/-! ### fractions -/
theorem low_pos {a : Int} {n : Nat} (hn : n ≠ 0) : low a (n : Int) = ((Rat.divInt a (n : Int)).num, ((Rat.divInt a (n : Int)).den : Int)) := by
  have e : Rat.divInt a (n : Int) = Rat.normalize a n hn := by
    show mkRat a n = _
    rw [Rat.mkRat_def, dif_neg hn]
  rw [e, Rat.normalize_eq]
  unfold low gI
  rw [if_neg (by omega), Int.natAbs_natCast]
  show (_, _) = (_, (((n / a.natAbs.gcd n : Nat)) : Int))
  rw [Int.natCast_ediv]
theorem low_rat {a b : Int} (hb : b ≠ 0) : low a b = ((Rat.divInt a b).num, ((Rat.divInt a b).den : Int)) := by
  by_cases c : 0 < b
  · obtain ⟨n, rfl⟩ := Int.eq_ofNat_of_zero_le (Int.le_of_lt c)
    exact low_pos (by omega)
  · obtain ⟨n, hn⟩ := Int.eq_ofNat_of_zero_le (show 0 ≤ -b by omega)
    have e : Rat.divInt a b = Rat.divInt (-a) (n : Int) := (Rat.divInt_eq_divInt_iff hb (by omega)).mpr (by rw [← hn, Int.mul_neg, Int.neg_mul])
    rw [e, ← low_pos (by omega), ← hn]
    unfold low gI
    rw [if_pos (by omega), if_neg (by omega), Int.natAbs_neg, Int.natAbs_neg]
theorem low_congr {a b a' b' : Int} (hb : b ≠ 0) (hb' : b' ≠ 0) (h : a * b' = a' * b) : low a b = low a' b' := by
  rw [low_rat hb, low_rat hb', (Rat.divInt_eq_divInt_iff hb hb').mpr h]
theorem low_q {a b u v : Int} (hb : b ≠ 0) (h : (u, v) = low a b) : Rat.divInt u v = Rat.divInt a b ∧ 0 < v := by
  rw [low_rat hb] at h
  have e1 : u = (Rat.divInt a b).num := congrArg Prod.fst h
  have e2 : v = ((Rat.divInt a b).den : Int) := congrArg Prod.snd h
  rw [e1, e2]
  exact ⟨Rat.num_divInt_den _, by have := (Rat.divInt a b).den_pos; omega⟩
theorem low_cross {a b u v : Int} (hb : b ≠ 0) (h : (u, v) = low a b) : u * b = a * v ∧ 0 < v := by
  obtain ⟨h1, h2⟩ := low_q hb h
  exact ⟨(Rat.divInt_eq_divInt_iff (by omega) hb).mp h1, h2⟩
/-- a number times a number: the parts may be reduced ahead or behind -/
theorem num_step {p A B u v a b u' v' : Int} (hp : p = 0 ∨ p ∈ primes) (hB : p = 0 → B ≠ 0) (hb0 : p = 0 → b ≠ 0) (hb1 : p ≠ 0 → b = 1) (hB1 : p ≠ 0 → B = 1) (h : IsNum p A B u v) (h' : IsNum p (u * a) (v * b) u' v') : IsNum p (A * a) (B * b) u' v' := by
  by_cases c : p = 0
  · obtain ⟨_, e⟩ := h.resolve_left (fun z => by omega)
    obtain ⟨_, e'⟩ := h'.resolve_left (fun z => by omega)
    obtain ⟨x1, x2⟩ := low_cross (hB c) e
    refine .inr ⟨by omega, e'.trans (low_congr (Int.mul_ne_zero (by omega) (hb0 c)) (Int.mul_ne_zero (hB c) (hb0 c)) ?_)⟩
    calc u * a * (B * b) = u * B * (a * b) := by rw [Int.mul_assoc, Int.mul_assoc]; congr 1; rw [← Int.mul_assoc, ← Int.mul_assoc, Int.mul_comm a B]
      _ = A * v * (a * b) := by rw [x1]
      _ = A * a * (v * b) := by rw [Int.mul_assoc, Int.mul_assoc]; congr 1; rw [← Int.mul_assoc, ← Int.mul_assoc, Int.mul_comm v a]
  · have hp2 := prime_pos (hp.resolve_left c)
    obtain ⟨h0, e1, l1, u1, m1⟩ := h.resolve_right (fun z => by omega)
    obtain ⟨_, e2, l2, u2, m2⟩ := h'.resolve_right (fun z => by omega)
    refine .inl ⟨h0, e2, l2, u2, ?_⟩
    rw [hB1 c, hb1 c]
    rw [hB1 c, Int.mul_one] at m1
    rw [hb1 c, e1] at m2
    have d1 := Int.dvd_of_emod_eq_zero m1
    have d2 := Int.dvd_of_emod_eq_zero m2
    apply Int.emod_eq_zero_of_dvd
    have e : u' * (1 * 1) - A * a = (u' * (1 * 1) - u * a) + (u - A) * a := by
      rw [Int.sub_mul]
      omega
    rw [e]
    exact Int.dvd_add d2 (Int.dvd_mul_of_dvd_left d1)
theorem low_small {a b u v : Int} (h : (u, v) = low a b) : u.natAbs ≤ a.natAbs ∧ v.natAbs ≤ b.natAbs := by
  have e1 := congrArg Prod.fst h
  have e2 := congrArg Prod.snd h
  unfold low at e1 e2
  by_cases c : b < 0
  · rw [if_pos c] at e1 e2
    have f1 : u = (-a) / gI a b := e1
    have f2 : v = (-b) / gI a b := e2
    have g1 := Int.natAbs_ediv_le_natAbs (-a) (gI a b)
    have g2 := Int.natAbs_ediv_le_natAbs (-b) (gI a b)
    rw [f1, f2]
    omega
  · rw [if_neg c] at e1 e2
    have f1 : u = a / gI a b := e1
    have f2 : v = b / gI a b := e2
    have g1 := Int.natAbs_ediv_le_natAbs a (gI a b)
    have g2 := Int.natAbs_ediv_le_natAbs b (gI a b)
    rw [f1, f2]
    omega
theorem num_small {p a b u v : Int} (hp : p = 0 ∨ p ∈ primes) (h : IsNum p a b u v) (ha : a.natAbs < 2 ^ 199) (hb : b.natAbs < 2 ^ 199) : u.natAbs < 2 ^ 200 ∧ v.natAbs < 2 ^ 200 := by
  rcases h with ⟨h0, rfl, h1, h2, _⟩ | ⟨_, h⟩
  · have := prime_pos (hp.resolve_left (by omega))
    omega
  · have := low_small h
    omega
theorem isW_cases {p d : Int} (hw : isW p d = true) : (p = 0 ∨ p ∈ primes) ∧ d.natAbs ≤ 31 := by
  by_cases c : p = 0
  · refine ⟨.inl c, ?_⟩
    unfold isW at hw
    rw [if_pos c] at hw
    by_cases h1 : -20 ≤ d
    · rw [if_pos h1] at hw
      have := of_decide_eq_true hw
      omega
    · rw [if_neg h1] at hw
      cases hw
  · obtain ⟨h1, h2, h3⟩ := isW_prime hw c
    have := prime_pos h1
    exact ⟨.inr h1, by omega⟩
end T

namespace T
open PySem PySem.Spec PyProof.Rows L2
/-! ### lists of integers as polynomials -/
def co (l : List Int) (k : Nat) : Int := l.getD k 0
theorem co_ge {l : List Int} {k : Nat} (h : l.length ≤ k) : co l k = 0 := by
  unfold co
  rw [List.getD_eq_getElem?_getD, List.getElem?_eq_none h]
  rfl
theorem co_get {l : List Int} {k : Nat} (h : k < l.length) : l[k]? = some (co l k) := by
  unfold co
  rw [List.getD_eq_getElem?_getD, List.getElem?_eq_getElem h]
  rfl
theorem co_mem {l : List Int} {k : Nat} (h : k < l.length) : co l k ∈ l := by
  have e := co_get h
  exact List.mem_of_getElem? e
theorem at_co {l : List Int} {k : Nat} (h : k < l.length) : atI (l.map V.int) (k : Int) = some (.int (co l k)) := atI_nat (by rw [List.getElem?_map, co_get h]; rfl)
theorem at_end {l : List Int} (h : l ≠ []) : atI (l.map V.int) (-1) = some (.int (co l (l.length - 1))) := by
  have hl : 0 < l.length := List.length_pos_iff.mpr h
  have e : l.map V.int = (l.take (l.length - 1)).map V.int ++ [V.int (co l (l.length - 1))] := by
    have e1 : l = l.take (l.length - 1) ++ [co l (l.length - 1)] := by
      have := List.take_succ (l := l) (i := l.length - 1)
      rw [show l.length - 1 + 1 = l.length by omega, List.take_length, co_get (by omega)] at this
      exact this
    conv => lhs; rw [e1]
    rw [List.map_append]
    rfl
  rw [e]
  exact atI_last _ _
/-- no 0 at the end -/
def Pol (l : List Int) : Prop := l = [] ∨ co l (l.length - 1) ≠ 0
theorem pol_len {l m : List Int} (hm : Pol m) (h : ∀ k, co l k = co m k) : m.length ≤ l.length := by
  rcases hm with rfl | hm
  · exact Nat.zero_le _
  · rcases Nat.lt_or_ge l.length m.length with c | c
    · rw [← h, co_ge (by omega)] at hm
      exact absurd rfl hm
    · exact c
theorem pol_ext {l m : List Int} (hl : Pol l) (hm : Pol m) (h : ∀ k, co l k = co m k) : l = m := by
  have h1 := pol_len hm h
  have h2 := pol_len hl (fun k => (h k).symm)
  refine List.ext_getElem? fun k => ?_
  rcases Nat.lt_or_ge k l.length with c | c
  · rw [co_get c, co_get (by omega), h]
  · rw [List.getElem?_eq_none c, List.getElem?_eq_none (by omega)]
theorem co_take {l : List Int} {s k : Nat} (h : ∀ i, s ≤ i → co l i = 0) : co (l.take s) k = co l k := by
  rcases Nat.lt_or_ge k s with c | c
  · unfold co
    rw [List.getD_eq_getElem?_getD, List.getD_eq_getElem?_getD, List.getElem?_take_of_lt c]
  · rw [h k c, co_ge (by rw [List.length_take]; omega)]
theorem pol_take {l : List Int} {s : Nat} (hs : s ≤ l.length) (h : s = 0 ∨ co l (s - 1) ≠ 0) (hz : ∀ i, s ≤ i → co l i = 0) : Pol (l.take s) := by
  rcases h with rfl | h
  · exact .inl rfl
  · by_cases c : s = 0
    · rw [c]
      exact .inl rfl
    · refine .inr ?_
      rw [List.length_take, Nat.min_eq_left hs, co_take hz]
      exact h
theorem co_map {f : Int → Int} (h0 : f 0 = 0) (l : List Int) (k : Nat) : co (l.map f) k = f (co l k) := by
  rcases Nat.lt_or_ge k l.length with c | c
  · have := co_get c
    unfold co
    rw [List.getD_eq_getElem?_getD, List.getElem?_map, List.getD_eq_getElem?_getD, this]
    rfl
  · rw [co_ge (by rw [List.length_map]; omega), co_ge c, h0]
theorem co_set {l : List Int} {i : Nat} {v : Int} (k : Nat) (h : i < l.length) : co (l.set i v) k = if k = i then v else co l k := by
  unfold co
  rw [List.getD_eq_getElem?_getD, List.getElem?_set]
  by_cases c : i = k
  · rw [if_pos c, if_pos c.symm, if_pos (by omega)]
    rfl
  · rw [if_neg c, if_neg (fun z => c z.symm), List.getD_eq_getElem?_getD]
theorem co_zeros (n k : Nat) : co (List.replicate n 0) k = 0 := by
  unfold co
  rw [List.getD_eq_getElem?_getD, List.getElem?_replicate]
  split <;> rfl
theorem map_set (l : List Int) (i : Nat) (v : Int) : (l.map V.int).set i (V.int v) = (l.set i v).map V.int := List.map_set.symm
/-! the value -/
def ev (x : Int) : List Int → Int
  | [] => 0
  | a :: r => a + x * ev x r
theorem ev_append (x : Int) (l : List Int) (a : Int) : ev x (l ++ [a]) = ev x l + x ^ l.length * a := by
  induction l with
  | nil => show a + x * 0 = 0 + x ^ 0 * a; rw [Int.pow_zero]; grind
  | cons b r ih =>
    show b + x * ev x (r ++ [a]) = b + x * ev x r + x ^ (r.length + 1) * a
    rw [ih, Int.pow_succ]
    grind
theorem ev_take (x : Int) {l : List Int} {i : Nat} (h : i < l.length) : ev x (l.take (i + 1)) = ev x (l.take i) + co l i * x ^ i := by
  have e : l.take (i + 1) = l.take i ++ [co l i] := by rw [List.take_succ, co_get h]; rfl
  rw [e, ev_append, List.length_take, Nat.min_eq_left (by omega), Int.mul_comm]
theorem ev_drop (x : Int) {l : List Int} {i : Nat} (h : i < l.length) : ev x (l.drop i) = co l i + x * ev x (l.drop (i + 1)) := by
  rw [List.drop_eq_getElem_cons h]
  have := co_get h
  rw [List.getElem?_eq_getElem h] at this
  rw [Option.some.inj this]
  rfl
/-! the product: what is there behind i rows, and j entries of the next -/
def row (one other : List Int) (i k : Nat) : Int := if i ≤ k then co one i * co other (k - i) else 0
def conv (one other : List Int) : Nat → Nat → Int
  | 0, _ => 0
  | i + 1, k => conv one other i k + row one other i k
theorem conv_more (one other : List Int) (k : Nat) : ∀ i, one.length ≤ i → conv one other i k = conv one other one.length k
  | 0, h => by rw [show one.length = 0 by omega]
  | i + 1, h => by
    by_cases c : one.length = i + 1
    · rw [c]
    · show conv one other i k + row one other i k = _
      rw [conv_more one other k i (by omega)]
      unfold row
      rw [co_ge (l := one) (by omega)]
      split <;> simp
theorem conv_top (one other : List Int) {k : Nat} : ∀ i, i ≤ one.length → i + other.length ≤ k + 1 → conv one other i k = 0
  | 0, _, _ => rfl
  | i + 1, h, hk => by
    show conv one other i k + row one other i k = 0
    rw [conv_top one other i (by omega) (by omega)]
    unfold row
    rw [if_pos (by omega), co_ge (l := other) (by omega)]
    simp
theorem conv_zero (one : List Int) (k : Nat) : ∀ i, conv one [] i k = 0
  | 0 => rfl
  | i + 1 => by
    show conv one [] i k + row one [] i k = 0
    rw [conv_zero one k i]
    unfold row
    rw [show co [] (k - i) = 0 from co_ge (Nat.zero_le _)]
    split <;> simp
theorem rep0 : ∀ n : Nat, (List.replicate n [V.int 0]).flatten = (List.replicate n (0 : Int)).map V.int
  | 0 => rfl
  | n + 1 => by
    rw [List.replicate_succ, List.flatten_cons, rep0 n, List.replicate_succ, List.map_cons]
    rfl
theorem ixN_nat {n j : Nat} (h : j < n) : ixN n (j : Int) = some j := by
  unfold ixN
  rw [if_pos (by omega), if_pos (by omega)]
  rfl
end T

/-! ### enumerate over a tuple (the hand layer has it over a list) -/
namespace PySem
open Sem (wp)
open AutoSeq1 (wpAny_loadPart')
theorem new_enumT (t : Addr) (its : Array Value) (n : Nat) (dc : Option Addr) (sl : Array (Option Value)) :
    Meets (Builtin.«enumerate.__new__» ⟨[.type "enumerate", .ref t], []⟩) (fun _ R s => s.heap.get? t = some { cls := .type "tuple", dict := dc, data := .seq its n, slots := sl } ∧
      R (.ok (.ret (.ref (s.heap.push { cls := .type "tuple_iterator", data := .fields #[.ref t, .int 0 0] }).objs.size)))
        { s with heap := (s.heap.push { cls := .type "tuple_iterator", data := .fields #[.ref t, .int 0 0] }).push { cls := .type "enumerate", data := .fields #[.none, .bool false, .ref s.heap.objs.size, rawInt 0, .none, .none] } }) :=
  .of_wp fun prog w A R s both => by
    obtain ⟨hp, g, d, tk, os⟩ := s
    obtain ⟨ht, both⟩ := both
    have below := sub_enumerate
    have tup : Heap.IsTuple (Shared.heap ⟨hp, g, d, tk, os⟩) t its := ⟨_, ht, rfl, n, rfl⟩
    wp_walk using wpAny_loadPart' ht
    refine wpAny_stack_any fun _ => wpAny_pure ?_
    split
    · rename_i c _ _ _ _ _
      cases (c == Value.type "enumerate")
      · wp_walk using wpAny_loadPart' ht, wpAny_pyIter_tuple tup
        exact ⟨_, rfl, both⟩
      · wp_walk using wpAny_loadPart' ht, wpAny_pyIter_tuple tup
        exact ⟨_, rfl, both⟩
    · wp_walk using wpAny_loadPart' ht, wpAny_pyIter_tuple tup
      exact ⟨_, rfl, both⟩
section
variable {prog : Program} {w : World} {A : Around} {E : Value → Shared → Prop} {s : Shared}
theorem call_enumT {t : Addr} {its : Array Value} {Q : Value → Shared → Prop} (ht : s.heap.IsTuple t its)
    (q : ∀ h', IsEnum h' (s.heap.objs.size + 1) s.heap.objs.size 0 .none → h'.IsTupleIter s.heap.objs.size t 0 →
      (∀ b o, s.heap.get? b = some o → h'.get? b = some o) → Q (.ref (s.heap.objs.size + 1)) { s with heap := h' }) :
    wpAny (model prog w) A (call (.type "enumerate") [.ref t]) Q E s := by
  obtain ⟨⟨c, dc, da, sl⟩, ht, ec, n, ed⟩ := ht
  obtain rfl : c = .type "tuple" := ec
  obtain rfl : da = .seq its n := ed
  refine callType_new F.called_enumerate (by decide) (F.typeCall_enumerate_1 _) (F.newCall_enumerate_1 _) (fun ob => F.args_object_init_2 ob _) F.entry_enumerate_new (new_enumT t its n dc sl) ⟨ht, ?_⟩
  have sz : (s.heap.push { cls := .type "tuple_iterator", data := .fields #[.ref t, .int 0 0] }).objs.size = s.heap.objs.size + 1 := Heap.size_push ..
  show _ ∧ _
  rw [sz]
  have en : IsEnum ((s.heap.push { cls := .type "tuple_iterator", data := .fields #[.ref t, .int 0 0] }).push { cls := .type "enumerate", data := .fields #[.none, .bool false, .ref s.heap.objs.size, rawInt 0, .none, .none] })
      (s.heap.objs.size + 1) s.heap.objs.size 0 .none := by
    have z := Heap.get?_push_size (s.heap.push { cls := .type "tuple_iterator", data := .fields #[.ref t, .int 0 0] }) (o := { cls := .type "enumerate", data := .fields #[.none, .bool false, .ref s.heap.objs.size, rawInt 0, .none, .none] }) rfl
    rw [sz] at z
    exact z
  exact ⟨⟨_, en, rfl⟩, q _ en ⟨_, Heap.get?_push_of_some _ (Heap.get?_push_size _ rfl), rfl, rfl⟩ fun b o x => Heap.get?_push_of_some _ (Heap.get?_push_of_some _ x)⟩
end
end PySem
namespace L2
open PySem PySem.Spec PyProof.Rows
/-- the tuple at a, each item in a new pair behind its index -/
def IteT (K : PySem.W.Frag) (a : Addr) : It :=
  ⟨fun i H => ∃ (ys : List V) (y : V), SqT K H a ys ∧ ys[i]? = some y, fun i H v H' => ∃ p y, v = .ref p ∧ H p = none ∧ H' = upd H p (.tup [.int (i : Nat), y]) ∧ ∀ ys, SqT K H a ys → ys[i]? = some y,
    fun i H => ∃ ys : List V, SqT K H a ys ∧ ys.length = i⟩
theorem turn_enumT {P : Program} {w : World} {K : PySem.W.Frag} {elts : List Expr} {kk : Nat} {tp : Pos} (a e it : Addr) :
    Turn P w K (.Tuple elts kk tp) (IteT K a) [e, it] e (fun i h => (∃ old, IsEnum h e it ((i : Nat) : Int) old) ∧ h.IsTupleIter it a i ∧ (e ≠ it ∧ a ≠ it ∧ a ≠ e)) where
  mem := by simp
  obj := fun i h st b hb => by
    obtain ⟨⟨old, he⟩, ⟨o, ho, _, dd⟩, _⟩ := st
    rcases (show b = e ∨ b = it by simpa using hb) with rfl | rfl
    · exact ⟨_, he, fun v z => nomatch z⟩
    · exact ⟨o, ho, fun v z => by rw [dd] at z; exact nomatch z⟩
  keep := fun i h h' st k => by
    obtain ⟨⟨old, he⟩, ⟨o, ho, r⟩, ne⟩ := st
    exact ⟨⟨old, k e (by simp) _ he⟩, ⟨o, k it (by simp) _ ho, r⟩, ne⟩
  item := by
    intro X hP hw hK hc i pins s σ H E I hf st hg
    subst hP hw hK
    obtain ⟨⟨old, he⟩, hit, ne, nai, nae⟩ := st
    obtain ⟨ys, y, hq, hy⟩ := hg
    obtain ⟨its, rv, p, hz⟩ := I.tuple hq
    obtain ⟨u, hu, ru⟩ := rv.get hy
    have szE : e < s.heap.objs.size := Heap.lt_size he
    have szI : it < s.heap.objs.size := by
      obtain ⟨_, z, _⟩ := hit
      exact Heap.lt_size z
    have small : ∀ b ∈ [e, it], b < s.heap.objs.size := fun b hb => by
      rcases (show b = e ∨ b = it by simpa using hb) with rfl | rfl <;> assumption
    have D := Draws.tuple (prog := X.prog) (w := X.w) (A := X.A.in1) (I.ok.hd hc) it a nai its.toArray
    have hlt : i < its.toArray.size := by
      have := (List.getElem?_eq_some_iff.mp hu).1
      simpa using this
    refine wpAny_pyNext_enum_itemD D he ⟨hit, p⟩ hlt ne (by simp only [List.mem_cons, List.not_mem_nil, or_false, not_or]; exact ⟨ne, Ne.symm nae⟩) fun x h' tk hx ho st2 hT hsz hk => ?_
    obtain ⟨hit2, _⟩ := st2
    have ex : x = u := by
      have h2 : its.toArray[i]? = some u := by simpa using hu
      rw [h2] at hx
      exact (Option.some.inj hx).symm
    subst ex
    refine ⟨_, rfl, wpAny_letOwnedTupleGo_enum (s := { s with heap := h', toks := tk + 1 }) ho fun h'' he' sb => ?_⟩
    have hT2 : h''.get? s.heap.objs.size = some { cls := .type "tuple", data := .seq #[.int i tk, x] } := (sb.2 _ (Nat.ne_of_gt szE)).trans hT
    have okN : ObjOk X.prog X.w (upd H s.heap.objs.size (.tup [.int (i : Nat), y])) h'' s.heap.objs.size (.tup [.int (i : Nat), y]) :=
      ⟨by show 2 ≤ sizeLine; decide, [.int i tk, x], .cons ⟨_, rfl⟩ (.cons ru .nil), ⟨_, hT2, rfl, _, rfl⟩⟩
    have J : Inv X pins σ (upd H s.heap.objs.size (.tup [.int (i : Nat), y])) { s with heap := h'', toks := tk + 1 } :=
      I.turnedNew (ch := [e, it]) (fun b ob hb z => (sb.2 b (fun y => hb (by simp [y]))).trans (hk b ob (fun y => hb (by simp [y])) (fun y => hb (by simp [y])) z)) hf (Nat.le_refl _) okN
    refine ⟨.ref s.heap.objs.size, _, J, rfl, ⟨_, y, rfl, I.hok.fresh (Nat.le_refl _), rfl, fun zs hs => by rw [I.tuple_inj hs hq]; exact hy⟩, ⟨⟨x, ?_⟩, ?_, ne, nai, nae⟩, fun b hb => ?_⟩
    · rw [show ((i + 1 : Nat) : Int) = (i : Int) + 1 by omega]
      exact he'
    · obtain ⟨o, ho2, r⟩ := hit2
      exact ⟨o, (sb.2 it (Ne.symm ne)).trans ho2, r⟩
    · rw [upd_ne (Nat.ne_of_lt (small b hb))]
      exact (hf b hb).1
  done := by
    intro X hP hw hK hc i pins s σ H E I hf st hg
    subst hP hw hK
    obtain ⟨⟨old, he⟩, hit, ne, nai, nae⟩ := st
    obtain ⟨ys, hq, hle⟩ := hg
    obtain ⟨its, rv, p, hz⟩ := I.tuple hq
    have len : its.toArray.size = i := by
      have := rv.length
      simp
      omega
    obtain ⟨g0, g1, _, g3, g4, g5⟩ := hf it (by simp)
    rw [← len] at hit
    have D := Draws.tuple (prog := X.prog) (w := X.w) (A := X.A.in1) (I.ok.hd hc) it a nai its.toArray
    exact wpAny_pyNext_enum_endD D he ⟨hit, p⟩ fun h' eb => ⟨rfl, I.turned (t' := s.toks) (fun b o hb z => eb b o hb z) g0 g1 g3 g4 g5⟩
  self := fun A i s Q E st h => by
    obtain ⟨⟨_, he⟩, _⟩ := st
    exact wpAny_pyIter_enum he h
def iEnumT (K : PySem.W.Frag) (ta : TA) : TI := fun σ H R => ta σ H fun vs H1 => ∃ a ys, vs = [.ref a] ∧ SqT K H1 a ys ∧ R (IteT K a) H1
theorem pi_enumT {X : Cx} {e : Expr} {ta : TA} {p pos tp : Pos} {elts : List Expr} {kk : Nat} (hg : Gl X "enumerate") (hm : X.mg "enumerate" = none) (ha : PA X [e] ta) (hs : starEach [e] X.env = [(false, eval e X.env)] := by rfl) :
    PI X (.Tuple elts kk tp) (.Call (.Name "enumerate" p) [e] [] pos) (iEnumT X.K ta) := by
  refine ⟨fun pins s σ H R I h => Call_ (ld_blt I hg hm boot_enumerate (PyProof.Rows.callWith_type1 (thn (ha.run pos pins s σ H _ I h) fun us s1 ⟨vs, H1, I1, r1, q1⟩ => ?_) hs rfl))⟩
  obtain ⟨a, ys, rfl, hq, q⟩ := q1
  cases r1 with
  | cons r rr =>
    cases rr
    cases r
    obtain ⟨its, rv, p', hz⟩ := I1.tuple hq
    have hp' : s1.heap.IsTuple a its.toArray := p'
    have old : a < s1.heap.objs.size := by
      obtain ⟨o, ho, _⟩ := hp'
      exact Heap.lt_size ho
    refine call_enumT hp' fun h' he hit hk => wpAny_pyIter_enum he ?_
    refine ⟨s1.heap.objs.size + 1, [s1.heap.objs.size + 1, s1.heap.objs.size], _, _, H1, rfl, I1.kept (t' := s1.toks) hk, turn_enumT a (s1.heap.objs.size + 1) s1.heap.objs.size,
      ⟨⟨.none, he⟩, hit, Nat.succ_ne_self _, Nat.ne_of_lt old, Nat.ne_of_lt (Nat.lt_succ_of_lt old)⟩, fun b hb => ?_, q⟩
    have hle : s1.heap.objs.size ≤ b := by
      rcases (show b = s1.heap.objs.size + 1 ∨ b = s1.heap.objs.size by simpa using hb) with rfl | rfl
      · exact Nat.le_succ _
      · exact Nat.le_refl _
    exact I1.fpOk hle (I1.hok.fresh hle)
theorem walk_enumT {K : PySem.W.Frag} {a : Addr} {xs : List V} : Walk (IteT K a) xs.length (fun H => SqT K H a xs) (YPair (fun i => some (.int (i : Nat))) (fun i => xs[i]?)) :=
  ⟨fun i H hi h => ⟨xs, _, h, List.getElem?_eq_getElem hi⟩, fun H h => ⟨xs, h, rfl⟩, fun i H v H' hi h y => by
    obtain ⟨p, z, rfl, np, rfl, hz⟩ := y
    exact ⟨p, _, z, rfl, np, rfl, rfl, hz xs h⟩⟩
end L2

namespace T
open PySem PySem.Spec PyProof.Rows L2
def SameBut (a : Addr) (H H' : Hp) : Prop := ∀ b o, b ≠ a → H b = some o → H' b = some o
theorem SameBut.refl (a : Addr) (H : Hp) : SameBut a H H := fun _ _ _ h => h
theorem SameBut.trans {a : Addr} {H H1 H2 : Hp} (x : SameBut a H H1) (y : SameBut a H1 H2) : SameBut a H H2 := fun b o n h => y b o n (x b o n h)
theorem SameBut.upd {a : Addr} {H : Hp} {o : HO} : SameBut a H (upd H a o) := fun b u n h => by rw [upd_ne n]; exact h
theorem SameBut.new {a p : Addr} {H : Hp} {o : HO} (h : H p = none) : SameBut a H (L2.upd H p o) := fun b u n e => by rw [upd_ne (ne_of_none e h)]; exact e
theorem Same.but {a : Addr} {H H' : Hp} (h : Same H H') : SameBut a H H' := fun b o _ e => h b o e
theorem same_upd {H : Hp} {p : Addr} {o : HO} (h : H p = none) : Same H (upd H p o) := fun b x e => by
  rw [upd_ne (ne_of_none e h)]
  exact e
theorem upd_self {H : Hp} {a : Addr} {o : HO} (h : H a = some o) : upd H a o = H := by
  funext b
  unfold upd
  by_cases e : b = a
  · rw [if_pos e, e, h]
  · rw [if_neg e]
theorem Same.mut {H H' : Hp} {p : Addr} {o : HO} (e : Same H H') (h : H p = none) : Same H (upd H' p o) := fun a u ha => by
  rw [upd_ne (ne_of_none ha h)]
  exact e a u ha
theorem map_int_get {ns : List Int} {i : Nat} {y : V} (hi : (ns.map V.int)[i]? = some y) : ∃ z, ns[i]? = some z ∧ y = V.int z := by
  rw [List.getElem?_map] at hi
  cases e : ns[i]? with
  | none =>
    rw [e] at hi
    cases hi
  | some z =>
    rw [e] at hi
    exact ⟨z, rfl, (Option.some.inj hi).symm⟩
theorem small_of {n : Nat} (h : n ≤ 100000) : n < sizeLine := Nat.lt_of_le_of_lt h (by decide)
structure ErrC (K : PySem.W.Frag) (mg : Str → Option Value) (x : Str) (C : Addr) : Prop where
  gc : mg x = some (.ref C)
  xC : PySem.W.excIn K C [.type "ValueError", .type "Exception", .type "BaseException", .type "object"] "ValueError.__new__" = true
  kc : PySem.W.keepIn K (.ref C) = true
  bc : PySem.W.subIn K (.ref C) (.type "BaseException") = some true
  tc : PySem.W.typeIn K (.ref C) = some (.type "type")
/-- a def whose defaults stand somewhere (called with all its arguments) -/
structure FunA (K : PySem.W.Frag) (x qual : Str) (st : Stmt) (f : Addr) (fd : FuncData) : Prop where
  ex : ∃ (oc : Value) (od : Option Addr) (dV kV doc pm : Value) (an : Option Addr) (cdv ct : Value) (osl : Array (Option Value)),
    fd = PySem.W.fnOf x qual (defArgs st) (defBody st) (defScope st) dV kV doc pm an cdv ct ∧ K.lookup f = some ⟨oc, od, .func fd, osl⟩ ∧ PySem.W.codeIn K cdv qual = true
  kp : PySem.W.keepIn K (.ref f) = true
section
variable {P : Program} {w : World} {K : PySem.W.Frag} {mg : Str → Option Value} {base : Heap}
theorem FunA.okX {x qual : Str} {st : Stmt} {f : Addr} {fd : FuncData} {N ps : List Str} {k : Nat} {sp : Sp} (F : FunA K x qual st f fd) (S : FnScope N ps (defScope st)) (len : ∀ vs H Q E, sp vs H Q E → vs.length = ps.length)
    (hbody : ∀ (cdv : Value) (A : Around) (outer : List Env) (s : Shared) (H : Hp) (vs : List V) (Q : VK) (E : XK), Room k (A.deeper (envOfC qual (defScope st) s.heap.objs.size f cdv)) → sp vs H Q E →
      ∃ t, PSs (cxOf (L2.CX P w) P w K mg base N qual (defScope st) f cdv A outer s H E) (defBody st) t ∧ t { nx := fun _ H' => Q .non H', rt := Q } (start N vs) H) : FnOk P w K mg base (L2.CX P w) (k + 1) f fd ps sp := by
  obtain ⟨oc, od, dV, kV, doc, pm, an, cdv, ct, osl, rfl, lk, hcd⟩ := F.ex
  exact fn_of lk hcd S len fun A outer s H vs Q E hr hsp => hbody cdv A outer s H vs Q E hr hsp
end
theorem if_pos_of {b : Bool} {A B : Prop} (h : b = true) (x : A) : if b = true then A else B := by
  rw [if_pos h]
  exact x
theorem if_neg_of {b : Bool} {A B : Prop} (h : ¬ b = true) (x : B) : if b = true then A else B := by
  rw [if_neg h]
  exact x
theorem sqT_same {K : PySem.W.Frag} {H H' : Hp} {a : Addr} {xs : List V} (e : Same H H') (h : SqT K H a xs) : SqT K H' a xs := by
  rcases h with (h | ⟨o, h⟩) | h
  · exact .inl (.inl (e _ _ h))
  · exact .inl (.inr ⟨o, e _ _ h⟩)
  · exact .inr h
section
variable {P : Program} {w : World} {K : PySem.W.Frag} {mg : Str → Option Value} {base : Heap}
theorem room64 {k : Nat} {A : Around} (hr : Room k A) : A.units + 64 < cLine := by have := hr.un; omega
theorem room65 {k : Nat} {A : Around} (hr : Room k A) : A.units + 65 < cLine := by have := hr.un; omega
theorem inV_primes {p : Int} : inV (.int p) [.int 2, .int 3, .int 5, .int 7, .int 11, .int 13, .int 17, .int 19, .int 23, .int 29, .int 31] = inV (.int p) (primes.map V.int) := rfl
end
theorem sqT_but {K : PySem.W.Frag} {H H' : Hp} {r a : Addr} {xs : List V} (e : SameBut r H H') (n : a ≠ r) (h : SqT K H a xs) : SqT K H' a xs := by
  rcases h with (h | ⟨o, h⟩) | h
  · exact .inl (.inl (e _ _ n h))
  · exact .inl (.inr ⟨o, e _ _ n h⟩)
  · exact .inr h
theorem at_tab {xs : List Int} {i : Int} (h0 : 0 ≤ i) (h1 : i < xs.length) : atI (xs.map V.int) i = some (.int (xs.getD i.toNat 0)) := by
  obtain ⟨n, rfl⟩ := Int.eq_ofNat_of_zero_le h0
  have hn : n < xs.length := by omega
  refine atI_nat ?_
  rw [List.getElem?_map, List.getElem?_eq_getElem hn, List.getD_eq_getElem?_getD, show ((n : Nat) : Int).toNat = n from rfl, List.getElem?_eq_getElem hn]
  rfl
theorem mod_lt8 (n : Int) {m : Int} (h : 0 < m) : 0 ≤ n % m ∧ n % m < m := ⟨Int.emod_nonneg _ (by omega), Int.emod_lt_of_pos _ h⟩
def wtab : List Int := [0, 0, 0, 2, 3, 5, 7, 31]
theorem wtab_in : ∀ k : Nat, k < 8 → wtab.getD k 0 = 0 ∨ (wtab.getD k 0 ≠ 0 ∧ inV (.int (wtab.getD k 0)) (primes.map V.int) = true ∧ 2 ≤ wtab.getD k 0) := by decide
/-! ### isinstance of the error that an except suite holds -/
def rIsE' (K : PySem.W.Frag) (cls : Value) (d : Option Addr) (a : Addr) : List V → Hp → VK → Prop := fun xs H Q => ∃ D : Addr, cls = .ref D ∧ d = none ∧ ExcC K D ∧ rIsE K D a xs H Q
theorem call_isE' {X : Cx} {a : Addr} {oe : Obj} {pn : List (Addr × Obj)} {cls : Value} {d : Option Addr} (hz : Zc cls d oe) (hf : ∃ vs, oe.data = .fields vs) : CallR (X.suite a ((a, oe) :: pn)) (.builtin "isinstance") (rIsE' X.K cls d a) := by
  intro pins s σ H xs us Q I r h
  obtain ⟨D, rfl, rfl, C, h⟩ := h
  exact call_isE C hz hf pins s σ H xs us Q I r h
theorem pe_indexK {X : Cx} {K : PySem.W.Frag} {o e : Expr} {to : TE} {t : TA} {apos cpos : Pos} (hK : X.K = K) (ho : PE X o to) (ha : PA X [e] t)
    (hb : attributeBase o "index" X.env (eval o X.env) = eval o X.env := by rfl)
    (hf : ((backTo cpos (starEach [e] X.env)).all (fun x => !x.1) && (backToKw cpos (keywordEach [] X.env)).all (fun x => x.1.isSome) && decide ([e].length + ([] : List Keyword).length + (if ([] : List Keyword).isEmpty then 0 else 1) < 30)) = true := by rfl)
    (hl : (apos.endLine == cpos.line) = true := by rfl) (hs : starEach [e] X.env = (false, eval e X.env) :: starEach [] X.env := by rfl) (hp : (backTo cpos (starEach [] X.env)).any (·.1) = false := by rfl) :
    PE X (.Call (.Attribute o "index" apos) [e] [] cpos) (tBM K "list" (rIndex K) to t) := by
  subst hK
  exact pe_bm PySem.F.plainAttrs_list PySem.F.slot_list_index PySem.F.type_list_index mt_index ho ha hb hf hl hs hp
/-! ### values without depth -/
inductive Val1 (H : Hp) : V → PyData → Prop
  | non : Val1 H .non .none
  | bl (b : Bool) : Val1 H (.bl b) (.bool b)
  | str (x : Str) : Val1 H (.str x) (.str x)
  | pair {t : Addr} {u v : Int} : H t = some (.tup [.int u, .int v]) → Val1 H (.ref t) (.tuple [.int u, .int v])
theorem Val1.dp {K : PySem.W.Frag} {H : Hp} {x : V} {d : PyData} (h : Val1 H x d) : Dp K H x d := by
  cases h with
  | non => exact .non
  | bl b => exact .bl b
  | str x => exact .str x
  | pair h => exact .tup (.inl (.inl h)) (.cons (.int _) (.cons (.int _) .nil))
theorem Val1.but {H H' : Hp} {D : Addr} {ys : List V} {x : V} {d : PyData} (s : SameBut D H H') (hD : H D = some (.lst ys)) (h : Val1 H x d) : Val1 H' x d := by
  cases h with
  | non => exact .non
  | bl b => exact .bl b
  | str x => exact .str x
  | pair h => exact .pair (s _ _ (ne_of h hD (fun z => nomatch z)) h)
theorem Val1.same {H H' : Hp} {x : V} {d : PyData} (s : Same H H') (h : Val1 H x d) : Val1 H' x d := by
  cases h with
  | non => exact .non
  | bl b => exact .bl b
  | str x => exact .str x
  | pair h => exact .pair (s _ _ h)
theorem vals1_dp {K : PySem.W.Frag} {H : Hp} : ∀ {xs : List V} {ds : List PyData}, Paired (Val1 H) xs ds → DpAll K H xs ds
  | _, _, .nil => .nil
  | _, _, .cons a b => .cons a.dp (vals1_dp b)
theorem paired_snoc {α β : Type} {F : α → β → Prop} {a : α} {b : β} (h : F a b) : ∀ {l : List α} {m : List β}, Paired F l m → Paired F (l ++ [a]) (m ++ [b])
  | _, _, .nil => .cons h .nil
  | _, _, .cons x y => .cons x (paired_snoc h y)

/-- the first def of a class -/
def inCls : Stmt → Stmt
  | .ClassDef _ _ _ body _ _ _ _ _ _ _ => body.getD 0 (.Pass ⟨0, 0, 0, 0⟩)
  | s => s
theorem pt_truthK {X : Cx} {K : PySem.W.Frag} {a : Expr} {ta : TE} (hK : X.K = K) (ha : PE X a ta) (he : ∀ whole, isTrue a X.env whole = (do let v ← whole; standAt a.pos; holding [v] (truthy v))) :
    PT X a (fun σ H Q => ta σ H fun x H' => ∃ k, TruV K x H' k ∧ Q k H') := by
  subst hK
  exact pt_truth ha he
theorem op_in_seqK {X : Cx} {K : PySem.W.Frag} (hK : X.K = K) : OpR X (compareOp .In) (rIn K false) := by
  subst hK
  exact op_in_seq
theorem op_notIn_seqK {X : Cx} {K : PySem.W.Frag} (hK : X.K = K) : OpR X (compareOp .NotIn) (rIn K true) := by
  subst hK
  exact op_notIn_seq
theorem pi_listK {X : Cx} {K : PySem.W.Frag} {tg e : Expr} {te : TE} (hK : X.K = K) (he : PE X e te) : PI X tg e (iList K te) := by
  subst hK
  exact pi_list he

def topS (i : Nat) : Stmt := PySem.Challenge.pw_threadworth_k04_sums_of_polynomials.main.body.getD i (.Pass ⟨0, 0, 0, 0⟩)
abbrev s_is_world : Stmt := topS 9
theorem sc_is_world : FnScope ["world", "p", "d"] ["world"] (defScope s_is_world) := ⟨rfl, rfl, rfl, by decide +kernel, rfl, by decide +kernel, by decide +kernel⟩
abbrev s_check_world : Stmt := topS 10
theorem sc_check_world : FnScope ["world"] ["world"] (defScope s_check_world) := ⟨rfl, rfl, rfl, by decide +kernel, rfl, by decide +kernel, by decide +kernel⟩
abbrev s_number : Stmt := topS 11
theorem sc_number : FnScope ["world", "a", "b", "p", "_"] ["world", "a", "b"] (defScope s_number) := ⟨rfl, rfl, rfl, by decide +kernel, rfl, by decide +kernel, by decide +kernel⟩
abbrev s_lowest_ : Stmt := topS 12
theorem sc_lowest_ : FnScope ["a", "b", "shared"] ["a", "b"] (defScope s_lowest_) := ⟨rfl, rfl, rfl, by decide +kernel, rfl, by decide +kernel, by decide +kernel⟩
abbrev s_inverse_ : Stmt := topS 13
theorem sc_inverse_ : FnScope ["p", "b", "rest", "found"] ["p", "b"] (defScope s_inverse_) := ⟨rfl, rfl, rfl, by decide +kernel, rfl, by decide +kernel, by decide +kernel⟩
abbrev s_is_poly : Stmt := topS 16
theorem sc_is_poly : FnScope ["poly"] ["poly"] (defScope s_is_poly) := ⟨rfl, rfl, rfl, by decide +kernel, rfl, by decide +kernel, by decide +kernel⟩
abbrev s_check_poly : Stmt := topS 17
theorem sc_check_poly : FnScope ["poly"] ["poly"] (defScope s_check_poly) := ⟨rfl, rfl, rfl, by decide +kernel, rfl, by decide +kernel, by decide +kernel⟩
abbrev s_added : Stmt := topS 18
theorem sc_added : FnScope ["one", "other"] ["one", "other"] (defScope s_added) := ⟨rfl, rfl, rfl, by decide +kernel, rfl, by decide +kernel, by decide +kernel⟩
abbrev s_subtracted : Stmt := topS 19
theorem sc_subtracted : FnScope ["one", "other"] ["one", "other"] (defScope s_subtracted) := ⟨rfl, rfl, rfl, by decide +kernel, rfl, by decide +kernel, by decide +kernel⟩
abbrev s_combined_ : Stmt := topS 20
theorem sc_combined_ : FnScope ["one", "other", "factor", "size", "k"] ["one", "other", "factor"] (defScope s_combined_) := ⟨rfl, rfl, rfl, by decide +kernel, rfl, by decide +kernel, by decide +kernel⟩
abbrev s_part_ : Stmt := topS 21
theorem sc_part_ : FnScope ["poly", "k"] ["poly", "k"] (defScope s_part_) := ⟨rfl, rfl, rfl, by decide +kernel, rfl, by decide +kernel, by decide +kernel⟩
abbrev s_trimmed_ : Stmt := topS 22
theorem sc_trimmed_ : FnScope ["parts", "size"] ["parts"] (defScope s_trimmed_) := ⟨rfl, rfl, rfl, by decide +kernel, rfl, by decide +kernel, by decide +kernel⟩
abbrev s_multiplied_polys : Stmt := topS 23
theorem sc_multiplied_polys : FnScope ["one", "other", "parts", "i", "left", "j", "right"] ["one", "other"] (defScope s_multiplied_polys) := ⟨rfl, rfl, rfl, by decide +kernel, rfl, by decide +kernel, by decide +kernel⟩
abbrev s_split_off_ : Stmt := topS 24
theorem sc_split_off_ : FnScope ["parts", "x", "sums", "worth", "part"] ["parts", "x"] (defScope s_split_off_) := ⟨rfl, rfl, rfl, by decide +kernel, rfl, by decide +kernel, by decide +kernel⟩
abbrev s_value_at : Stmt := topS 25
theorem sc_value_at : FnScope ["poly", "x", "_", "worth"] ["poly", "x"] (defScope s_value_at) := ⟨rfl, rfl, rfl, by decide +kernel, rfl, by decide +kernel, by decide +kernel⟩
abbrev s_value : Stmt := topS 26
theorem sc_value : FnScope ["world", "poly"] ["world", "poly"] (defScope s_value) := ⟨rfl, rfl, rfl, by decide +kernel, rfl, by decide +kernel, by decide +kernel⟩
abbrev s_law_plain : Stmt := topS 28
theorem sc_law_plain : FnScope ["cell"] ["cell"] (defScope s_law_plain) := ⟨rfl, rfl, rfl, by decide +kernel, rfl, by decide +kernel, by decide +kernel⟩
abbrev s_law_draws : Stmt := topS 29
theorem sc_law_draws : FnScope ["script", "draws", "cell", "rest", "k", "once", "twice"] ["script"] (defScope s_law_draws) := ⟨rfl, rfl, rfl, by decide +kernel, rfl, by decide +kernel, by decide +kernel⟩
abbrev s_law_next : Stmt := topS 30
theorem sc_law_next : FnScope ["draws"] ["draws"] (defScope s_law_next) := ⟨rfl, rfl, rfl, by decide +kernel, rfl, by decide +kernel, by decide +kernel⟩
abbrev s_law_world : Stmt := topS 31
theorem sc_law_world : FnScope ["draws", "p"] ["draws"] (defScope s_law_world) := ⟨rfl, rfl, rfl, by decide +kernel, rfl, by decide +kernel, by decide +kernel⟩
abbrev s_law_lowest : Stmt := topS 32
theorem sc_law_lowest : FnScope ["a", "b", "one", "other", "j"] ["a", "b"] (defScope s_law_lowest) := ⟨rfl, rfl, rfl, by decide +kernel, rfl, by decide +kernel, by decide +kernel⟩
abbrev s_law_made : Stmt := topS 33
theorem sc_law_made : FnScope ["p", "a", "b", "x"] ["p", "a", "b"] (defScope s_law_made) := ⟨rfl, rfl, rfl, by decide +kernel, rfl, by decide +kernel, by decide +kernel⟩
abbrev s_law_number : Stmt := topS 34
theorem sc_law_number : FnScope ["draws", "world"] ["draws", "world"] (defScope s_law_number) := ⟨rfl, rfl, rfl, by decide +kernel, rfl, by decide +kernel, by decide +kernel⟩
abbrev s_law_cut : Stmt := topS 35
theorem sc_law_cut : FnScope ["parts", "size", "j"] ["parts"] (defScope s_law_cut) := ⟨rfl, rfl, rfl, by decide +kernel, rfl, by decide +kernel, by decide +kernel⟩
abbrev s_law_poly : Stmt := topS 36
theorem sc_law_poly : FnScope ["draws", "most", "j"] ["draws", "most"] (defScope s_law_poly) := ⟨rfl, rfl, rfl, by decide +kernel, rfl, by decide +kernel, by decide +kernel⟩
abbrev s_law_value : Stmt := topS 37
theorem sc_law_value : FnScope ["poly", "x", "total", "factor", "part"] ["poly", "x"] (defScope s_law_value) := ⟨rfl, rfl, rfl, by decide +kernel, rfl, by decide +kernel, by decide +kernel⟩
abbrev s_law_times : Stmt := topS 38
theorem sc_law_times : FnScope ["one", "other", "parts", "i", "j"] ["one", "other"] (defScope s_law_times) := ⟨rfl, rfl, rfl, by decide +kernel, rfl, by decide +kernel, by decide +kernel⟩
abbrev s_law_plus : Stmt := topS 39
theorem sc_law_plus : FnScope ["one", "other", "parts", "poly", "j"] ["one", "other"] (defScope s_law_plus) := ⟨rfl, rfl, rfl, by decide +kernel, rfl, by decide +kernel, by decide +kernel⟩
abbrev s_law_told : Stmt := topS 40
theorem sc_law_told : FnScope ["way", "one", "other", "error", "kinds"] ["way", "one", "other"] (defScope s_law_told) := ⟨rfl, rfl, rfl, by decide +kernel, rfl, by decide +kernel, by decide +kernel⟩
abbrev s_law : Stmt := topS 41
theorem sc_law : FnScope ["script", "draws", "one", "other", "negative", "due", "x", "world", "bad", "large", "part", "way"] ["script"] (defScope s_law) := ⟨rfl, rfl, rfl, by decide +kernel, rfl, by decide +kernel, by decide +kernel⟩
structure SmL (n k : Nat) (D : PyData) : Prop where
  lay : D.canLay0 = true
  dep : D.depth ≤ n
  sho : D.showable = true
  wgt : wt D ≤ k
theorem smL_all {n k : Nat} : ∀ {ds : List PyData}, (∀ D ∈ ds, SmL n k D) → PyData.canLayAll0 ds = true ∧ PyData.depthAll ds ≤ n ∧ PyData.showableAll ds = true ∧ wtAll ds ≤ (k + 2) * ds.length
  | [], _ => ⟨by simp [PyData.canLayAll0], by simp [PyData.depthAll], by simp [PyData.showableAll], by simp [wtAll]⟩
  | D :: ds, h => by
    obtain ⟨h1, h2, h3, h4⟩ := smL_all (ds := ds) fun E hE => h E (List.mem_cons_of_mem _ hE)
    have g := h D List.mem_cons_self
    refine ⟨by simp [PyData.canLayAll0, g.lay, h1], ?_, by simp [PyData.showableAll, g.sho, h3], ?_⟩
    · simp only [PyData.depthAll]
      have := g.dep
      omega
    · simp only [wtAll, List.length_cons, Nat.mul_add]
      have := g.wgt
      omega
theorem smL_list {n k : Nat} {ds : List PyData} (h : ∀ D ∈ ds, SmL n k D) : SmL (n + 1) ((k + 2) * ds.length + 3) (.list ds) := by
  obtain ⟨h1, h2, h3, h4⟩ := smL_all h
  exact ⟨by simp [PyData.canLay0, h1], by simp only [PyData.depth]; omega, by simp [PyData.showable, h3], by simp only [wt]; omega⟩
theorem smL_tuple {n k : Nat} {ds : List PyData} (h : ∀ D ∈ ds, SmL n k D) : SmL (n + 1) ((k + 2) * ds.length + 3) (.tuple ds) := by
  obtain ⟨h1, h2, h3, h4⟩ := smL_all h
  exact ⟨by simp [PyData.canLay0, h1], by simp only [PyData.depth]; omega, by simp [PyData.showable, h3], by simp only [wt]; omega⟩
theorem SmL.shaped {n k : Nat} {D : PyData} (h : SmL n k D) (hn : n ≤ 64) : SeqAt.shaped D = true := by
  show (PyData.canLay0 D && decide (PyData.depth D ≤ 64)) = true
  rw [h.lay, decide_eq_true (Nat.le_trans h.dep hn)]
  rfl
theorem SmL.wide {n k : Nat} {D : PyData} (h : SmL n k D) (hk : k ≤ 16777216) : wt D ≤ sizeLine := by
  rw [sizeLine_eq]
  exact Nat.le_trans h.wgt hk
theorem small_log {i : Int} (h : i.natAbs < 2 ^ 200) : i.natAbs.log2 < 1920 := by
  by_cases e : i.natAbs = 0
  · rw [e]
    decide
  · exact (Nat.log2_lt e).mpr (Nat.lt_of_lt_of_le h (Nat.pow_le_pow_right (by decide) (by decide)))
theorem smL_int {i : Int} (h : i.natAbs < 2 ^ 200) : SmL 0 1921 (.int i) := ⟨by simp [PyData.canLay0], by simp [PyData.depth], by simp [PyData.showable, small_log h], by simp only [wt]; omega⟩
theorem smL_pair {u v : Int} (hu : u.natAbs < 2 ^ 200) (hv : v.natAbs < 2 ^ 200) : SmL 1 4000 (.tuple [.int u, .int v]) := by
  have h := smL_tuple (ds := [.int u, .int v]) (n := 0) (k := 1921) fun D hD => by
    rcases List.mem_cons.mp hD with rfl | hD
    · exact smL_int hu
    · rcases List.mem_cons.mp hD with rfl | hD
      · exact smL_int hv
      · cases hD
  exact ⟨h.lay, h.dep, h.sho, Nat.le_trans h.wgt (by show (1921 + 2) * 2 + 3 ≤ 4000; decide)⟩
theorem ok_n : PyData.strOk ("!n" : Str) = true := by decide +kernel
theorem ok_b : PyData.strOk ("!b" : Str) = true := by decide +kernel
theorem ok_w : PyData.strOk ("!w" : Str) = true := by decide +kernel
theorem rl_n : (reprText ("!n" : Str)).length = 4 := by decide +kernel
theorem rl_b : (reprText ("!b" : Str)).length = 4 := by decide +kernel
theorem rl_w : (reprText ("!w" : Str)).length = 4 := by decide +kernel
theorem smL_n : SmL 1 4000 (.str "!n") := ⟨by simp [PyData.canLay0, ok_n], by simp [PyData.depth], by simp [PyData.showable], by simp only [wt, rl_n]; omega⟩
theorem smL_b : SmL 1 4000 (.str "!b") := ⟨by simp [PyData.canLay0, ok_b], by simp [PyData.depth], by simp [PyData.showable], by simp only [wt, rl_b]; omega⟩
theorem smL_w : SmL 1 4000 (.str "!w") := ⟨by simp [PyData.canLay0, ok_w], by simp [PyData.depth], by simp [PyData.showable], by simp only [wt, rl_w]; omega⟩
theorem smL_non : SmL 1 4000 .none := ⟨by simp [PyData.canLay0], by simp [PyData.depth], by simp [PyData.showable], by simp only [wt]; omega⟩
theorem smL_bool (b : Bool) : SmL 1 4000 (.bool b) := ⟨by simp [PyData.canLay0], by simp [PyData.depth], by simp [PyData.showable], by simp only [wt]; omega⟩

section
variable {P : Program} {w : World} {K : PySem.W.Frag} {mg : Str → Option Value} {base : Heap}
/-! ### is_world -/
def spIsWorld (K : PySem.W.Frag) : Sp := fun vs H Q _ => ∃ (a : Addr) (p d : Int), vs = [.ref a] ∧ SqT K H a [.int p, .int d] ∧ Q (.bl (isW p d)) H
theorem ok_is_world {f : Addr} {fd : FuncData} {aP : Addr} (F : Fun K "is_world" "is_world" s_is_world f fd) (m_PRIMES : mg "PRIMES" = some (.ref aP)) (tP : ∀ H, SqT K H aP (primes.map V.int)) :
    FnOk P w K mg base CX0 1 f fd ["world"] (spIsWorld K) := by
  have r_PRIMES : RelV (.ref aP) (.ref aP) := rfl
  refine F.ok sc_is_world (fun vs H Q E h => ?_) (fun cdv A outer s H vs Q E hr h => ?_)
  · obtain ⟨a, p, d, rfl, _⟩ := h
    rfl
  · obtain ⟨a, p, d, rfl, hS, q⟩ := h
    refine ⟨_, (pss_cons (ps_asg (pv 0) (pg_tup rfl (pgs_cons (pg_name (i := 1) sc_is_world.nd rfl (.inl rfl)) (pgs_cons (pg_name (i := 2) sc_is_world.nd rfl (.inl rfl)) pgs_nil))))
  (pss_cons (ps_if (pt_cmpR op_eq (pv 1) pe_int (nomark _)) (pss_one (ps_ret (pe_chain op_le op_le (pe_un un_neg pe_int) (pv 2) pe_int))) pss_nil)
  (pss_one (ps_ret (pe_and (pe_cmpR op_in_seq (pv 1) (pe_glob rfl m_PRIMES r_PRIMES) (by with_unfolding_all rfl)) (pe_one (pe_chain op_le op_lt pe_int (pv 2) (pv 1)))))))), ?_⟩
    refine ⟨_, rfl, a, _, rfl, hS, rfl, _, _, rfl, _, _, rfl, rfl, ?_⟩
    refine ⟨_, rfl, rfl, _, rfl, ite2 (fun e => ?_) (fun e => ?_)⟩
    · have e0 : p = 0 := V.int.inj (of_decide_eq_true e)
      have ew : isW p d = if -20 ≤ d then decide (d ≤ 20) else false := if_pos e0
      rw [ew] at q
      refine ⟨_, rfl, _, rfl, _, _, rfl, rfl, _, rfl, ite2 (fun e1 => ?_) (fun e1 => ?_)⟩
      · rw [if_pos (of_decide_eq_true e1)] at q
        exact ⟨_, _, rfl, rfl, q⟩
      · rw [if_neg (fun z => e1 (decide_eq_true z))] at q
        exact q
    · have e0 : p ≠ 0 := fun z => e (decide_eq_true (congrArg V.int z))
      have ew : isW p d = (if inV (.int p) (primes.map V.int) = true then (if 0 ≤ d then decide (d < p) else false) else false) := if_neg e0
      rw [ew] at q
      refine ⟨_, rfl, aP, _, rfl, .inr (tP _), rfl, by decide, _, rfl, ite2 (fun e1 => ?_) (fun e1 => ?_)⟩
      · have e1' : inV (.int p) (primes.map V.int) = true := e1
        rw [if_pos e1'] at q
        refine ⟨_, rfl, _, _, rfl, rfl, _, rfl, ite2 (fun e2 => ?_) (fun e2 => ?_)⟩
        · rw [if_pos (of_decide_eq_true e2)] at q
          exact ⟨_, rfl, _, _, rfl, rfl, q⟩
        · rw [if_neg (fun z => e2 (decide_eq_true z))] at q
          exact q
      · have e1' : ¬ inV (.int p) (primes.map V.int) = true := e1
        rw [if_neg e1'] at q
        have e2 : inV (.int p) (primes.map V.int) = false := Bool.eq_false_iff.mpr e1'
        exact q
end

section
variable {P : Program} {w : World} {K : PySem.W.Frag} {mg : Str → Option Value} {base : Heap}
/-! ### _law_plain -/
def spPlain : Sp := fun vs H Q _ => ∃ n : Int, vs = [.int n] ∧ Q (.int (if n < 0 then -n else n)) H
theorem ok_plain {f : Addr} {fd : FuncData} (F : Fun K "_law_plain" "_law_plain" s_law_plain f fd) : FnOk P w K mg base CX0 1 f fd ["cell"] spPlain := by
  refine F.ok sc_law_plain (fun vs H Q E h => ?_) (fun cdv A outer s H vs Q E hr h => ?_)
  · obtain ⟨n, rfl, _⟩ := h
    rfl
  · obtain ⟨n, rfl, q⟩ := h
    refine ⟨_, (pss_cons (ps_if (pt_cmpR op_lt (pv 0) pe_int (nomark _)) (pss_one (ps_ret (pe_op op_sub pe_int (pv 0)))) pss_nil)
  (pss_one (ps_ret (pv 0))))
    , ?_⟩
    refine ⟨_, rfl, _, _, rfl, rfl, _, rfl, ite2 (fun e => ?_) (fun e => ?_)⟩
    · rw [if_pos (of_decide_eq_true e)] at q
      have q' : Q (.int (0 - n)) H := by
        rw [show (0 : Int) - n = -n by omega]
        exact q
      exact ⟨_, rfl, _, _, rfl, rfl, q'⟩
    · rw [if_neg (fun z => e (decide_eq_true z))] at q
      exact ⟨_, rfl, q⟩
end

section
variable {P : Program} {w : World} {K : PySem.W.Frag} {mg : Str → Option Value} {base : Heap}
/-! ### _law_next -/
def spNext : Sp := fun vs H Q _ => ∃ (a : Addr) (ds : List Int), vs = [.ref a] ∧ H a = some (.lst (ds.map V.int)) ∧ ∀ (n : Int) (ds' : List Int), Q (.int n) (upd H a (.lst (ds'.map V.int)))
theorem ok_next {f : Addr} {fd : FuncData} (F : Fun K "_law_next" "_law_next" s_law_next f fd) : FnOk P w K mg base CX0 1 f fd ["draws"] spNext := by
  refine F.ok sc_law_next (fun vs H Q E h => ?_) (fun cdv A outer s H vs Q E hr h => ?_)
  · obtain ⟨a, ds, rfl, _⟩ := h
    rfl
  · obtain ⟨a, ds, rfl, hL, q⟩ := h
    refine ⟨_, (pss_cons (ps_if (pt_truth (pv 0) (by intro _; rfl)) (pss_one (ps_ret (pe_bm0 PySem.F.plainAttrs_list PySem.F.slot_list_pop PySem.F.type_list_pop mt_pop (pv 0)))) pss_nil)
  (pss_one (ps_ret pe_int)))
    , ?_⟩
    refine ⟨_, rfl, _, .inl ⟨_, .inl (.inl hL), rfl⟩, ite2 (fun e => ?_) (fun e => ?_)⟩
    · have hn : ds ≠ [] := fun z => by subst z; cases e
      have hm : ds.map V.int = ds.dropLast.map V.int ++ [V.int (ds.getLast hn)] := by
        rw [← List.map_singleton, ← List.map_append, List.dropLast_concat_getLast]
      refine ⟨_, rfl, .inl ⟨rfl, _, .inl (.inl hL)⟩, a, _, .int (ds.getLast hn), rfl, rfl, hL, ?_, ?_⟩
      · rw [hm]; simp
      · rw [hm, List.dropLast_concat]
        exact q _ _
    · have := q 0 ds
      rw [upd_self hL] at this
      exact this
end

section
variable {P : Program} {w : World} {K : PySem.W.Frag} {mg : Str → Option Value} {base : Heap}
/-! ### _law_draws -/
def spDraws (K : PySem.W.Frag) : Sp := fun vs H Q _ => ∃ (a : Addr) (ns : List Int), vs = [.ref a] ∧ SqL K H a (ns.map V.int) ∧ ns.length ≤ 63 ∧
  ∀ H' r (ds : List Int), Same H H' → H r = none → H' r = some (.lst (ds.map V.int)) → Q (.ref r) H'
theorem ok_draws {f : Addr} {fd : FuncData} {a_law_plain : Addr} {fd_law_plain : FuncData} (F : Fun K "_law_draws" "_law_draws" s_law_draws f fd) (z_range : mg "range" = none) (z_int : mg "int" = none)
    (G_law_plain : FnOk P w K mg base CX0 1 a_law_plain fd_law_plain ["cell"] spPlain) (g_law_plain : mg "_law_plain" = some (.ref a_law_plain)) (k_law_plain : PySem.W.keepIn K (.ref a_law_plain) = true) (b_law_plain : Binds K fd_law_plain ["cell"] []) :
    FnOk P w K mg base CX0 2 f fd ["script"] (spDraws K) := by
  refine F.ok sc_law_draws (fun vs H Q E h => ?_) (fun cdv A outer s H vs Q E hr h => ?_)
  · obtain ⟨n, _, rfl, _⟩ := h
    rfl
  · obtain ⟨a, ns, rfl, hS, hlen, q⟩ := h
    refine ⟨_, (pss_cons (ps_set (i := 1) sc_law_draws.nd rfl (.inl rfl) (pe_lst pa_nil))
  (pss_cons (ps_for PassesOwn.never rfl (pi_list (pv 0)) (pg_name (i := 2) sc_law_draws.nd rfl (.inl rfl)) (pss_cons (ps_set (i := 3) sc_law_draws.nd rfl (.inl rfl) (pe_call G_law_plain (hr.mono (by decide)) rfl g_law_plain k_law_plain b_law_plain .nil pass0 (pa_cons (pv 2) pa_nil)))
  (pss_one (ps_if (pt_cmpR op_ge (pv 3) pe_int (nomark _)) (pss_one (ps_for PassesOwn.never rfl (pi_range1 rfl z_range (pa_cons pe_int pa_nil)) (pg_name (i := 4) sc_law_draws.nd rfl (.inl rfl)) (pss_cons (ps_if (pt_cmpR op_eq (pv 3) pe_int (nomark _)) (pss_one ps_break) pss_nil)
  (pss_cons (ps_expr (pe_bm PySem.F.plainAttrs_list PySem.F.slot_list_append PySem.F.type_list_append mt_append (pv 1) (pa_cons (pe_op op_mod (pe_callTy call_int1 (by rfl) z_int boot_int (pa_cons (pv 3) pa_nil)) pe_int) pa_nil)))
  (pss_one (ps_set (i := 3) sc_law_draws.nd rfl (.inl rfl) (pe_op op_fdiv (pv 3) pe_int))))))) (pss_cons (ps_set (i := 5) sc_law_draws.nd rfl (.inl rfl) (pe_op op_mod (pe_callTy call_int1 (by rfl) z_int boot_int (pa_cons (pe_op op_add (pe_op op_mul (pv 3) pe_int) pe_int) pa_nil)) pe_int))
  (pss_cons (ps_set (i := 6) sc_law_draws.nd rfl (.inl rfl) (pe_op op_mod (pe_callTy call_int1 (by rfl) z_int boot_int (pa_cons (pe_op op_add (pe_op op_mul (pv 5) pe_int) (pv 3)) pa_nil)) pe_int))
  (pss_one (ps_expr (pe_bm PySem.F.plainAttrs_list PySem.F.slot_list_extend PySem.F.type_list_extend mt_extend (pv 1) (pa_cons (pe_lst (pa_cons (pe_op op_mod (pe_callTy call_int1 (by rfl) z_int boot_int (pa_cons (pv 3) pa_nil)) pe_int) (pa_cons (pe_op op_mod (pe_callTy call_int1 (by rfl) z_int boot_int (pa_cons (pv 5) pa_nil)) pe_int) (pa_cons (pe_op op_mod (pe_callTy call_int1 (by rfl) z_int boot_int (pa_cons (pv 6) pa_nil)) pe_int) pa_nil)))) pa_nil))))))))))
  (pss_one (ps_ret (pv 1)))))
    , ?_⟩
    refine ⟨Nat.zero_le _, fun o no => ?_⟩
    have s1 : Same H (upd H o (.lst [])) := same_upd no
    refine ⟨.ref a, rfl, a, rfl, ⟨_, s1.seq hS⟩, for_list (K := K) (a := a) (xs := ns.map V.int) (fun i σ H' => ∃ v2 v3 v4 v5 v6 ds, σ = [some (.ref a), some (.ref o), v2, v3, v4, v5, v6] ∧ Same H H' ∧ H' o = some (.lst (ds.map V.int)) ∧ ds.length ≤ 60 * i)
      ⟨none, none, none, none, none, [], rfl, s1, upd_same, Nat.le_refl _⟩ (fun i σ H' _ ⟨_, _, _, _, _, _, _, sm, _⟩ => sm.seq hS) ?_ ?_⟩
    · rintro i y σ H1 hi ⟨v2, v3, v4, v5, v6, ds, rfl, sm, hL, hl⟩
      have hi63 : i < 63 := by
        have := (List.getElem?_eq_some_iff.mp hi).1
        rw [List.length_map] at this
        omega
      obtain ⟨z, hz, rfl⟩ := map_int_get hi
      refine ⟨_, rfl, z, rfl, ?_⟩
      generalize hr0 : (if z < 0 then -z else z) = r0
      have h0 : 0 ≤ r0 := by
        subst hr0
        split <;> omega
      refine ⟨_, rfl, _, _, rfl, rfl, _, rfl, ite2 (fun e => ?_) (fun e => ?_)⟩
      · refine ⟨60, rfl, by decide, by decide, for_range (lo := 0) (n := 60) (fun j σ H' => ∃ r v4 ds', σ = [some (.ref a), some (.ref o), some (.int z), some (.int r), v4, v5, v6] ∧ 0 ≤ r ∧ Same H H' ∧ H' o = some (.lst (ds'.map V.int)) ∧ ds'.length ≤ 60 * i + j)
          ⟨r0, v4, ds, rfl, h0, sm, hL, hl⟩ ?_ ?_⟩
        · rintro j σ H2 hj ⟨r, v4', ds', rfl, hr0', sm2, hL2, hl2⟩
          refine ⟨_, rfl, rfl, _, rfl, ite2 (fun e1 => ?_) (fun e1 => ?_)⟩
          · exact ⟨_, _, _, _, _, ds', rfl, sm2, hL2, by omega⟩
          · refine ⟨.ref o, rfl, .inl ⟨rfl, _, .inl (.inl hL2)⟩, .int r, rfl, .inl ⟨r, rfl, r, 1000, rfl, rfl, (show (0:Int) < 1000 by decide), o, _, _, rfl, rfl, hL2, ?_, ?_⟩⟩
            · rw [List.length_map]
              exact small_of (by omega)
            · refine ⟨_, rfl, r, 1000, rfl, rfl, ⟨by decide, by decide⟩, ?_⟩
              refine ⟨r / 1000, _, ds' ++ [r % 1000], rfl, by omega, Same.mut sm2 no, ?_, ?_⟩
              · rw [upd_same, List.map_append]
                rfl
              · rw [List.length_append]
                show ds'.length + 1 ≤ _
                omega
        · rintro σ H2 ⟨r, v4', ds', rfl, hr0', sm2, hL2, hl2⟩
          exact ⟨_, _, _, _, _, ds', rfl, sm2, hL2, by omega⟩
      · have c1 : CMul r0 48271 := .inr ⟨by decide, by decide⟩
        refine ⟨.int r0, rfl, r0, 48271, rfl, rfl, c1, _, 11, rfl, rfl, .inl ⟨_, rfl, _, 2147483647, rfl, rfl, (show (0:Int) < 2147483647 by decide), ?_⟩⟩
        have c2 : ∀ x : Int, CMul x 69621 := fun _ => .inr ⟨by decide, by decide⟩
        refine ⟨_, rfl, _, 69621, rfl, rfl, c2 _, .int r0, rfl, _, r0, rfl, rfl, .inl ⟨_, rfl, _, 2147483629, rfl, rfl, (show (0:Int) < 2147483629 by decide), ?_⟩⟩
        have p1000 : (0:Int) < 1000 := by decide
        refine ⟨.ref o, rfl, .inl ⟨rfl, _, .inl (.inl hL)⟩, ?_⟩
        refine ⟨.int r0, rfl, .inl ⟨r0, rfl, r0, 1000, rfl, rfl, p1000, _, rfl, .inl ⟨_, rfl, _, 1000, rfl, rfl, p1000, _, rfl, .inl ⟨_, rfl, _, 1000, rfl, rfl, p1000, ?_⟩⟩⟩⟩
        refine ⟨(by show 3 ≤ sizeLine; decide), fun c nc => ?_⟩
        have hoc : o ≠ c := ne_of_none hL nc
        refine ⟨o, c, ds.map V.int, _, rfl, rfl, ?_, upd_same, ?_, ?_⟩
        · rw [upd_ne hoc]
          exact hL
        · rw [List.length_map]
          exact Nat.le_of_lt (small_of (show ds.length + 3 ≤ 100000 by omega))
        · refine ⟨_, _, _, _, _, ds ++ [r0 % 1000, (r0 * 48271 + 11) % 2147483647 % 1000, ((r0 * 48271 + 11) % 2147483647 * 69621 + r0) % 2147483629 % 1000], rfl, Same.mut (Same.trans sm (same_upd nc)) no, ?_, ?_⟩
          · rw [upd_same, List.map_append]
            rfl
          · rw [List.length_append]
            show ds.length + 3 ≤ _
            omega
    · rintro σ H1 ⟨v2, v3, v4, v5, v6, ds, rfl, sm, hL, hl⟩
      exact ⟨_, rfl, q H1 o ds sm no hL⟩
end

section
variable {P : Program} {w : World} {K : PySem.W.Frag} {mg : Str → Option Value} {base : Heap}
/-! ### check_world -/
def spCheckWorld (K : PySem.W.Frag) (CW : Addr) : Sp := fun vs H Q E => ∃ (a : Addr) (p d : Int), vs = [.ref a] ∧ SqT K H a [.int p, .int d] ∧ (isW p d = true → Q .non H) ∧ (isW p d = false → E (.ref CW) none H)
theorem ok_check_world {f CW a_is_world : Addr} {fd fd_is_world : FuncData} (F : Fun K "check_world" "check_world" s_check_world f fd) (T : ErrC K mg "NotWorld" CW)
    (G_is_world : FnOk P w K mg base CX0 1 a_is_world fd_is_world ["world"] (spIsWorld K)) (g_is_world : mg "is_world" = some (.ref a_is_world)) (k_is_world : PySem.W.keepIn K (.ref a_is_world) = true) (b_is_world : Binds K fd_is_world ["world"] []) :
    FnOk P w K mg base (L2.CX P w) 2 f fd ["world"] (spCheckWorld K CW) := by
  obtain ⟨gc_NotWorld, x_NotWorld, kc_NotWorld, bc_NotWorld, tc_NotWorld⟩ := T
  refine F.okX sc_check_world (fun vs H Q E h => ?_) (fun cdv A outer s H vs Q E hr h => ?_)
  · obtain ⟨a, p, d, rfl, _⟩ := h
    rfl
  · obtain ⟨a, p, d, rfl, hS, q1, q2⟩ := h
    refine ⟨_, (pss_one (ps_if (pt_not (pt_val (pe_call G_is_world (hr.mono (by decide)) rfl g_is_world k_is_world b_is_world .nil pass0 (pa_cons (pv 0) pa_nil)))) (pss_one (ps_raise rfl (takes_of rfl rfl rfl rfl) (pmk_own PySem.F.excBase_ValueError x_NotWorld gc_NotWorld kc_NotWorld (raises_own bc_NotWorld tc_NotWorld) rfl))) pss_nil))
    , ?_⟩
    refine ⟨_, rfl, a, p, d, rfl, hS, _, rfl, ?_⟩
    cases e : isW p d with
    | true => exact iteF (q1 e)
    | false => exact iteT (q2 e)
end

def DivOk (b : Int) : Prop := b.natAbs < 1073741824 ∨ (0 < b ∧ b.natAbs < 2 ^ 200)
theorem cdw {a g : Int} (h0 : 0 < g) (h : g.natAbs < 2 ^ 200) : CDivW a g := by
  refine ⟨h0, Nat.lt_trans ((Nat.log2_lt (by omega)).mpr h) (by decide)⟩
section
variable {P : Program} {w : World} {K : PySem.W.Frag} {mg : Str → Option Value} {base : Heap}
/-! ### _lowest -/
def spLowest : Sp := fun vs H Q _ => ∃ a b : Int, vs = [.int a, .int b] ∧ b ≠ 0 ∧ DivOk b ∧ ∀ r, H r = none → Q (.ref r) (upd H r (.tup [.int (low a b).1, .int (low a b).2]))
theorem ok_lowest {f : Addr} {fd : FuncData} (F : Fun K "_lowest" "_lowest" s_lowest_ f fd) (m_gcd : mg "gcd" = some (.builtin "math.gcd")) : FnOk P w K mg base CX0 1 f fd ["a", "b"] spLowest := by
  refine F.ok sc_lowest_ (fun vs H Q E h => ?_) (fun cdv A outer s H vs Q E hr h => ?_)
  · obtain ⟨a, b, rfl, _⟩ := h
    rfl
  · obtain ⟨a, b, rfl, hb, hl, q⟩ := h
    have hg := gI_pos (a := a) hb
    have hg2 := gI_le (a := a) hb
    refine ⟨_, (pss_cons (ps_set (i := 2) sc_lowest_.nd rfl (.inl rfl) (pe_callBfun cr_gcd rfl m_gcd (pa_cons (pv 0) (pa_cons (pv 1) pa_nil))))
  (pss_cons (ps_if (pt_cmpR op_lt (pv 1) pe_int (nomark _)) (pss_one (ps_set (i := 2) sc_lowest_.nd rfl (.inl rfl) (pe_un un_neg (pv 2)))) pss_nil)
  (pss_one (ps_ret (pe_tup (pa_cons (pe_op (OpR.or op_fdivN op_fdivW) (pv 0) (pv 2)) (pa_cons (pe_op (OpR.or op_fdivN op_fdivW) (pv 1) (pv 2)) pa_nil))))))), ?_⟩
    refine ⟨_, rfl, _, rfl, a, b, rfl, ?_⟩
    refine ⟨_, rfl, _, _, rfl, rfl, _, rfl, ite2 (fun e => ?_) (fun e => ?_)⟩
    · have e0 : b < 0 := of_decide_eq_true e
      have hl1 : b.natAbs < 1073741824 := hl.resolve_right (fun z => by omega)
      have c : CDivN a (-gI a b) := ⟨by omega, by omega⟩
      refine ⟨_, rfl, _, rfl, ?_⟩
      refine ⟨_, rfl, _, rfl, .inl ⟨a, -gI a b, rfl, rfl, c, _, rfl, _, rfl, .inl ⟨b, -gI a b, rfl, rfl, c, (by show 2 ≤ sizeLine; decide), fun r nr => ?_⟩⟩⟩
      have h1 := q r nr
      unfold low at h1
      rw [if_pos e0] at h1
      rw [← fdiv_negg a _ (Int.le_of_lt hg), ← fdiv_negg b _ (Int.le_of_lt hg)] at h1
      exact h1
    · have e0 : ¬ b < 0 := fun z => e (decide_eq_true z)
      have hl2 : b.natAbs < 2 ^ 200 := by
        rcases hl with z | z
        · exact Nat.lt_trans z (by decide)
        · exact z.2
      have c : CDivW a (gI a b) := cdw hg (by omega)
      refine ⟨_, rfl, _, rfl, .inr ⟨a, gI a b, rfl, rfl, c, _, rfl, _, rfl, .inr ⟨b, gI a b, rfl, rfl, c, (by show 2 ≤ sizeLine; decide), fun r nr => ?_⟩⟩⟩
      have h1 := q r nr
      unfold low at h1
      rw [if_neg e0] at h1
      exact h1
end

section
variable {P : Program} {w : World} {K : PySem.W.Frag} {mg : Str → Option Value} {base : Heap}
/-! ### _inverse -/
def spInverse : Sp := fun vs H Q _ => ∃ p b : Int, vs = [.int p, .int b] ∧ p ∈ primes ∧ b % p ≠ 0 ∧ ∀ k, 1 ≤ k → k < p → k * (b % p) % p = 1 → Q (.int k) H
theorem ok_inverse {f : Addr} {fd : FuncData} (F : Fun K "_inverse" "_inverse" s_inverse_ f fd) : FnOk P w K mg base CX0 1 f fd ["p", "b"] spInverse := by
  refine F.ok sc_inverse_ (fun vs H Q E h => ?_) (fun cdv A outer s H vs Q E hr h => ?_)
  · obtain ⟨p, b, rfl, _⟩ := h
    rfl
  · obtain ⟨p, b, rfl, hp, hb, q⟩ := h
    have hp2 := prime_pos hp
    have hpos : 0 < p := by omega
    obtain ⟨i0, i1, i2, ei⟩ := inv_ex hp (Int.emod_nonneg b (by omega)) (Int.emod_lt_of_pos b hpos) hb
    refine ⟨_, (pss_cons (ps_set (i := 2) sc_inverse_.nd rfl (.inl rfl) (pe_op op_mod (pv 1) (pv 0)))
  (pss_cons (ps_set (i := 3) sc_inverse_.nd rfl (.inl rfl) pe_int)
  (pss_cons (ps_while PassesOwn.never (pt_cmpR op_ne (pe_op op_mod (pe_op op_mul (pv 3) (pv 2)) (pv 0)) pe_int (nomark _)) (pss_one (ps_aug (i := 3) sc_inverse_.nd rfl (.inl rfl) pe_int ip_add)))
  (pss_one (ps_ret (pv 3))))))
    , ?_⟩
    refine ⟨_, rfl, _, rfl, b, p, rfl, rfl, hpos, ?_⟩
    refine ⟨fun m σ H' => ∃ k : Int, σ = [some (.int p), some (.int b), some (.int (b % p)), some (.int k)] ∧ H' = H ∧ 1 ≤ k ∧ k ≤ i0 ∧ m = (i0 - k).toNat, ⟨_, 1, rfl, rfl, by omega, i1, rfl⟩, ?_⟩
    rintro m σ H' ⟨k, rfl, rfl, k1, k2, rfl⟩
    have c1 : CMul k (b % p) := .inl ⟨by omega, by omega⟩
    refine ⟨_, rfl, _, rfl, k, b % p, rfl, rfl, c1, _, rfl, _, p, rfl, rfl, hpos, rfl, _, rfl, ?_⟩
    by_cases e : k * (b % p) % p = 1
    · rw [decide_eq_true (congrArg V.int e)]
      exact iteF ⟨_, rfl, q k k1 (by omega) e⟩
    · rw [decide_eq_false (fun z => e (V.int.inj z))]
      have hk : k ≠ i0 := fun z => e (by rw [z]; exact ei)
      exact iteT ⟨_, fun _ _ n => n, _, rfl, _, _, rfl, rfl, _, by omega, k + 1, rfl, rfl, by omega, by omega, rfl⟩
end

section
variable {P : Program} {w : World} {K : PySem.W.Frag} {mg : Str → Option Value} {base : Heap}
/-! ### number -/
def spNumber (K : PySem.W.Frag) (CW CB : Addr) : Sp := fun vs H Q E => ∃ (x : Addr) (p d a b : Int), vs = [.ref x, .int a, .int b] ∧ SqT K H x [.int p, .int d] ∧ DivOk b ∧ (isW p d = false → E (.ref CW) none H) ∧
  (isW p d = true → bad p b → E (.ref CB) none H) ∧ (isW p d = true → ¬ bad p b → ∀ r u v, IsNum p a b u v → H r = none → Q (.ref r) (upd H r (.tup [.int u, .int v])))
theorem ok_number {f CW CB a_check_world a_inverse_ a_lowest_ : Addr} {fd fd_check_world fd_inverse_ fd_lowest_ : FuncData} (F : FunA K "number" "number" s_number f fd) (T : ErrC K mg "BadNumber" CB)
    (G_check_world : FnOk P w K mg base (L2.CX P w) 2 a_check_world fd_check_world ["world"] (spCheckWorld K CW)) (g_check_world : mg "check_world" = some (.ref a_check_world)) (k_check_world : PySem.W.keepIn K (.ref a_check_world) = true) (b_check_world : Binds K fd_check_world ["world"] [])
    (G_inverse_ : FnOk P w K mg base CX0 1 a_inverse_ fd_inverse_ ["p", "b"] spInverse) (g_inverse_ : mg "_inverse" = some (.ref a_inverse_)) (k_inverse_ : PySem.W.keepIn K (.ref a_inverse_) = true) (b_inverse_ : Binds K fd_inverse_ ["p", "b"] [])
    (G_lowest_ : FnOk P w K mg base CX0 1 a_lowest_ fd_lowest_ ["a", "b"] spLowest) (g_lowest_ : mg "_lowest" = some (.ref a_lowest_)) (k_lowest_ : PySem.W.keepIn K (.ref a_lowest_) = true) (b_lowest_ : Binds K fd_lowest_ ["a", "b"] []) :
    FnOk P w K mg base (L2.CX P w) 3 f fd ["world", "a", "b"] (spNumber K CW CB) := by
  obtain ⟨gc_BadNumber, x_BadNumber, kc_BadNumber, bc_BadNumber, tc_BadNumber⟩ := T
  refine F.okX sc_number (fun vs H Q E h => ?_) (fun cdv A outer s H vs Q E hr h => ?_)
  · obtain ⟨x, p, d, a, b, rfl, _⟩ := h
    rfl
  · obtain ⟨x, p, d, a, b, rfl, hS, hl, q1, q2, q3⟩ := h
    refine ⟨_, (pss_cons (ps_expr (pe_call G_check_world (hr.mono (by decide)) rfl g_check_world k_check_world b_check_world .nil (passes_call (takes_of rfl rfl rfl rfl) (fun _ _ _ _ h => h)) (pa_cons (pv 0) pa_nil)))
  (pss_cons (ps_asg (pv 0) (pg_tup rfl (pgs_cons (pg_name (i := 3) sc_number.nd rfl (.inl rfl)) (pgs_cons (pg_name (i := 4) sc_number.nd rfl (.inl rfl)) pgs_nil))))
  (pss_cons (ps_if (pw_or (pt_cmpR op_eq (pv 2) pe_int (nomark _)) (pw_or1 (pw_and (pt_cmpR op_gt (pv 3) pe_int (nomark _)) (pw_and1 (pt_cmpR op_eq (pe_op op_mod (pv 2) (pv 3)) pe_int (nomark _)))).pt)).pt (pss_one (ps_raise rfl (takes_of rfl rfl rfl rfl) (pmk_own PySem.F.excBase_ValueError x_BadNumber gc_BadNumber kc_BadNumber (raises_own bc_BadNumber tc_BadNumber) rfl))) pss_nil)
  (pss_cons (ps_if (pt_cmpR op_gt (pv 3) pe_int (nomark _)) (pss_one (ps_ret (pe_tup (pa_cons (pe_op op_mod (pe_op op_mul (pv 1) (pe_call G_inverse_ (hr.mono (by decide)) rfl g_inverse_ k_inverse_ b_inverse_ .nil pass0 (pa_cons (pv 3) (pa_cons (pv 2) pa_nil)))) (pv 3)) (pa_cons pe_int pa_nil))))) pss_nil)
  (pss_one (ps_ret (pe_call G_lowest_ (hr.mono (by decide)) rfl g_lowest_ k_lowest_ b_lowest_ .nil pass0 (pa_cons (pv 1) (pa_cons (pv 2) pa_nil)))))))))
    , ?_⟩
    refine ⟨_, rfl, x, p, d, rfl, hS, fun ew => ?_, q1⟩
    have r2 := q2 ew
    have r3 := q3 ew
    refine ⟨_, rfl, x, _, rfl, hS, rfl, _, _, rfl, _, _, rfl, rfl, ?_⟩
    by_cases hb0 : b = 0
    · refine ⟨_, rfl, rfl, _, rfl, ?_⟩
      rw [decide_eq_true (congrArg V.int hb0)]
      exact iteT (iteT (r2 (.inl hb0)))
    · refine ⟨_, rfl, rfl, _, rfl, ?_⟩
      rw [decide_eq_false (fun z => hb0 (V.int.inj z))]
      refine iteF ?_
      refine ⟨_, rfl, _, _, rfl, rfl, _, rfl, ?_⟩
      by_cases hp : 0 < p
      · have hpp := (isW_prime ew (by omega)).1
        have hp2 := prime_pos hpp
        rw [decide_eq_true hp]
        refine iteT ⟨_, rfl, _, rfl, b, p, rfl, rfl, hp, rfl, _, rfl, ?_⟩
        by_cases hm : b % p = 0
        · rw [decide_eq_true (congrArg V.int hm)]
          exact iteT (r2 (.inr ⟨hp, hm⟩))
        · rw [decide_eq_false (fun z => hm (V.int.inj z))]
          refine iteF ?_
          refine ⟨_, rfl, _, _, rfl, rfl, _, rfl, ?_⟩
          rw [decide_eq_true hp]
          refine iteT ?_
          refine ⟨_, rfl, _, rfl, _, rfl, p, b, rfl, hpp, hm, fun k k1 k2 ek => ?_⟩
          refine ⟨a, k, rfl, rfl, .inr ⟨by omega, by omega⟩, _, rfl, _, p, rfl, rfl, hp, (by show 2 ≤ sizeLine; decide), fun r nr => ?_⟩
          refine r3 (fun z => ?_) r _ 1 (.inl ⟨hp, rfl, Int.emod_nonneg _ (by omega), Int.emod_lt_of_pos _ hp, inv_solves hp ek (by omega)⟩) nr
          rcases z with z | z
          · exact hb0 z
          · exact hm z.2
      · rw [decide_eq_false hp]
        refine iteF (iteF ?_)
        refine ⟨_, rfl, _, _, rfl, rfl, _, rfl, ?_⟩
        rw [decide_eq_false hp]
        refine iteF ?_
        refine ⟨_, rfl, _, rfl, a, b, rfl, hb0, hl, fun r nr => ?_⟩
        refine r3 (fun z => ?_) r _ _ (.inr ⟨hp, rfl⟩) nr
        rcases z with z | z
        · exact hb0 z
        · exact hp z.1
end

section
variable {P : Program} {w : World} {K : PySem.W.Frag} {mg : Str → Option Value} {base : Heap}
/-! ### _law_lowest -/
def spLawLowest : Sp := fun vs H Q _ => ∃ a b : Int, vs = [.int a, .int b] ∧ b ≠ 0 ∧ b.natAbs ≤ 1000000000 ∧ ∀ r, H r = none → Q (.ref r) (upd H r (.tup [.int (low a b).1, .int (low a b).2]))
theorem ok_law_lowest {f : Addr} {fd : FuncData} (F : Fun K "_law_lowest" "_law_lowest" s_law_lowest f fd) (z_range : mg "range" = none) (z_int : mg "int" = none) (z_abs : mg "abs" = none) : FnOk P w K mg base CX0 1 f fd ["a", "b"] spLawLowest := by
  refine F.ok sc_law_lowest (fun vs H Q E h => ?_) (fun cdv A outer s H vs Q E hr h => ?_)
  · obtain ⟨a, b, rfl, _⟩ := h
    rfl
  · obtain ⟨a, b, rfl, hb, hl, q⟩ := h
    have hg := gI_pos (a := a) hb
    have hg2 := gI_le (a := a) hb
    refine ⟨_, (Evl.pss_cut (ps_if (pt_cmpR op_lt (pv 1) pe_int (nomark _)) (pss_cons (ps_set (i := 0) sc_law_lowest.nd rfl (.inl rfl) (pe_op op_sub pe_int (pv 0)))
  (pss_one (ps_set (i := 1) sc_law_lowest.nd rfl (.inl rfl) (pe_op op_sub pe_int (pv 1))))) pss_nil)
  (pss_cons (ps_set (i := 2) sc_law_lowest.nd rfl (.inl rfl) (pe_callB call_abs (by rfl) z_abs boot_abs (pa_cons (pv 0) pa_nil)))
  (pss_cons (ps_set (i := 3) sc_law_lowest.nd rfl (.inl rfl) (pv 1))
  (pss_cons (ps_for PassesOwn.never rfl (pi_range1 rfl z_range (pa_cons (pe_op op_pow pe_int pe_int) pa_nil)) (pg_name (i := 4) sc_law_lowest.nd rfl (.inl rfl)) (pss_cons (ps_if (pt_cmpR op_eq (pv 3) pe_int (nomark _)) (pss_one ps_break) pss_nil)
  (pss_one (ps_par (i := 2) (j := 3) rfl sc_law_lowest.nd rfl rfl (by decide) rfl rfl (pa_cons (pv 3) (pa_cons (pe_op op_mod (pe_callTy call_int1 (by rfl) z_int boot_int (pa_cons (pv 2) pa_nil)) (pv 3)) pa_nil)) (by rfl)))))
  (pss_one (ps_ret (pe_tup (pa_cons (pe_op op_fdiv (pv 0) (pv 2)) (pa_cons (pe_op op_fdiv (pv 1) (pv 2)) pa_nil)))))))))
    , ?_⟩
    refine ⟨fun σ' H' => ∃ a' b' : Int, σ' = [some (.int a'), some (.int b'), none, none, none] ∧ H' = H ∧ 0 < b' ∧ b' ≤ 1000000000 ∧ gI a' b' = gI a b ∧ low a b = (a' / gI a b, b' / gI a b), ?_, ?_⟩
    · refine ⟨_, rfl, _, _, rfl, rfl, _, rfl, ite2 (fun e => ?_) (fun e => ?_)⟩
      · have e0 : b < 0 := of_decide_eq_true e
        refine ⟨_, rfl, _, _, rfl, rfl, _, rfl, _, _, rfl, rfl, 0 - a, 0 - b, rfl, rfl, by omega, by omega, ?_, ?_⟩
        · unfold gI
          rw [show (0 - a).natAbs = a.natAbs by omega, show (0 - b).natAbs = b.natAbs by omega]
        · unfold low
          rw [if_pos e0, show 0 - a = -a by omega, show 0 - b = -b by omega]
      · have e0 : ¬ b < 0 := fun z => e (decide_eq_true z)
        exact ⟨a, b, rfl, rfl, by omega, by omega, rfl, if_neg e0⟩
    · rintro σ' H' ⟨a', b', rfl, rfl, b1, b2, eg, el⟩
      refine ⟨_, rfl, a', rfl, ?_⟩
      refine ⟨_, rfl, ?_⟩
      refine ⟨10, 9, rfl, rfl, ⟨by decide, by decide, by decide⟩, _, rfl, by decide, by decide, for_range (lo := 0) (n := 1000000000) (fun j σ H'' => ∃ (m n : Nat) (v4 : Option V), σ = [some (.int a'), some (.int b'), some (.int (m : Int)), some (.int (n : Int)), v4] ∧ H'' = H' ∧ ((Nat.gcd m n : Nat) : Int) = gI a b ∧ n + j ≤ b'.toNat)
        ⟨a'.natAbs, b'.natAbs, none, ?_, rfl, eg, by omega⟩ ?_ ?_⟩
      · have e1 : (if a' < 0 then -a' else a') = (a'.natAbs : Int) := by split <;> omega
        have e2 : b' = (b'.natAbs : Int) := by omega
        rw [← e1, ← e2]
        rfl
      · rintro j σ H2 hj ⟨m, n, v4, rfl, rfl, e1, e2⟩
        refine ⟨_, rfl, rfl, _, rfl, ite2 (fun e => ?_) (fun e => ?_)⟩
        · have n0 : (n : Int) = 0 := V.int.inj (of_decide_eq_true e)
          have n0' : n = 0 := by omega
          subst n0'
          rw [Nat.gcd_zero_right] at e1
          have c : CDiv a' (m : Int) := ⟨by omega, by omega⟩
          refine ⟨_, rfl, _, rfl, a', m, rfl, rfl, c, _, rfl, _, rfl, b', m, rfl, rfl, c, (by show 2 ≤ sizeLine; decide), fun r nr => ?_⟩
          have h1 := q r nr
          rw [el, ← e1] at h1
          exact h1
        · have n0 : n ≠ 0 := fun z => e (decide_eq_true (congrArg V.int (by rw [z]; rfl)))
          refine ⟨_, rfl, _, rfl, .inl ⟨_, rfl, _, rfl, m, n, rfl, rfl, (show (0 : Int) < n by omega), _, _, rfl, n, m % n, some (.int (0 + (j : Int))), ?_, rfl, ?_, ?_⟩⟩
          · rw [Int.natCast_emod]
            rfl
          · rw [Nat.gcd_comm n (m % n), ← Nat.gcd_rec, Nat.gcd_comm]
            exact e1
          · have := Nat.mod_lt m (show n > 0 by omega)
            omega
      · rintro σ H2 ⟨m, n, v4, rfl, rfl, e1, e2⟩
        have n0' : n = 0 := by omega
        subst n0'
        rw [Nat.gcd_zero_right] at e1
        have c : CDiv a' (m : Int) := ⟨by omega, by omega⟩
        refine ⟨_, rfl, _, rfl, a', m, rfl, rfl, c, _, rfl, _, rfl, b', m, rfl, rfl, c, (by show 2 ≤ sizeLine; decide), fun r nr => ?_⟩
        have h1 := q r nr
        rw [el, ← e1] at h1
        exact h1
end

section
variable {P : Program} {w : World} {K : PySem.W.Frag} {mg : Str → Option Value} {base : Heap}
/-! ### _law_made -/
def spLawMade : Sp := fun vs H Q _ => ∃ p a b : Int, vs = [.int p, .int a, .int b] ∧ (p = 0 ∨ p ∈ primes) ∧ ¬ bad p b ∧ b.natAbs ≤ 1000000000 ∧ ∀ r u v, IsNum p a b u v → H r = none → Q (.ref r) (upd H r (.tup [.int u, .int v]))
theorem ok_law_made {f a_law_lowest : Addr} {fd fd_law_lowest : FuncData} (F : Fun K "_law_made" "_law_made" s_law_made f fd) (z_range : mg "range" = none) (z_int : mg "int" = none)
    (G_law_lowest : FnOk P w K mg base CX0 1 a_law_lowest fd_law_lowest ["a", "b"] spLawLowest) (g_law_lowest : mg "_law_lowest" = some (.ref a_law_lowest)) (k_law_lowest : PySem.W.keepIn K (.ref a_law_lowest) = true) (b_law_lowest : Binds K fd_law_lowest ["a", "b"] []) :
    FnOk P w K mg base CX0 2 f fd ["p", "a", "b"] spLawMade := by
  refine F.ok sc_law_made (fun vs H Q E h => ?_) (fun cdv A outer s H vs Q E hr h => ?_)
  · obtain ⟨p, a, b, rfl, _⟩ := h
    rfl
  · obtain ⟨p, a, b, rfl, hp, hb, hl, q⟩ := h
    refine ⟨_, (pss_cons (ps_if (pt_cmpR op_eq (pv 0) pe_int (nomark _)) (pss_one (ps_ret (pe_call G_law_lowest (hr.mono (by decide)) rfl g_law_lowest k_law_lowest b_law_lowest .nil pass0 (pa_cons (pv 1) (pa_cons (pv 2) pa_nil))))) pss_nil)
  (pss_cons (ps_for PassesOwn.never rfl (pi_range1 rfl z_range (pa_cons (pv 0) pa_nil)) (pg_name (i := 3) sc_law_made.nd rfl (.inl rfl)) (pss_one (ps_if (pt_cmpR op_eq (pe_op op_mod (pe_callTy call_int1 (by rfl) z_int boot_int (pa_cons (pe_op op_sub (pe_op op_mul (pv 3) (pv 2)) (pv 1)) pa_nil)) (pv 0)) pe_int (nomark _)) (pss_one (ps_ret (pe_tup (pa_cons (pv 3) (pa_cons pe_int pa_nil))))) pss_nil)))
  (pss_one (ps_ret pe_non))))
    , ?_⟩
    refine ⟨_, rfl, rfl, _, rfl, ite2 (fun e => ?_) (fun e => ?_)⟩
    · have e0 : p = 0 := V.int.inj (of_decide_eq_true e)
      exact ⟨_, rfl, _, rfl, a, b, rfl, fun z => hb (.inl z), hl, fun r nr => q r _ _ (.inr ⟨by omega, rfl⟩) nr⟩
    · have e0 : p ≠ 0 := fun z => e (decide_eq_true (congrArg V.int z))
      have hpp : p ∈ primes := hp.resolve_left e0
      have hp2 := prime_pos hpp
      have hpos : 0 < p := by omega
      have hbp : b % p ≠ 0 := fun z => hb (.inr ⟨hpos, z⟩)
      obtain ⟨k, k1, k2, ek⟩ := inv_ex hpp (Int.emod_nonneg b (by omega)) (Int.emod_lt_of_pos b hpos) hbp
      have hsol := inv_solves (a := a) hpos ek (by omega)
      refine ⟨_, rfl, p, rfl, by omega, by omega, for_range (lo := 0) (n := p.toNat) (fun j σ H' => ∃ v3, σ = [some (.int p), some (.int a), some (.int b), v3] ∧ H' = H ∧ ∀ i : Int, 0 ≤ i → i < j → (i * b - a) % p ≠ 0) ⟨none, rfl, rfl, fun i h1 h2 => by omega⟩ ?_ ?_⟩
      · rintro j σ H1 hj ⟨v3, rfl, rfl, hn⟩
        have c1 : CMul (0 + (j : Int)) b := .inl ⟨by omega, by omega⟩
        refine ⟨_, rfl, _, rfl, _, _, rfl, rfl, c1, _, rfl, _, _, rfl, rfl, .inl ⟨_, rfl, _, rfl, _, p, rfl, rfl, hpos, rfl, _, rfl, ite2 (fun e => ?_) (fun e => ?_)⟩⟩
        · have e1 : ((0 + (j : Int)) * b - a) % p = 0 := V.int.inj (of_decide_eq_true e)
          exact ⟨_, rfl, (by show 2 ≤ sizeLine; decide), fun r nr => q r _ _ (.inl ⟨hpos, rfl, by omega, by omega, e1⟩) nr⟩
        · have e1 : ((0 + (j : Int)) * b - a) % p ≠ 0 := fun z => e (decide_eq_true (congrArg V.int z))
          refine ⟨_, rfl, rfl, fun i h1 h2 => ?_⟩
          by_cases z : i = j
          · rw [z, show (j : Int) = 0 + (j : Int) by omega]
            exact e1
          · exact hn i h1 (by omega)
      · rintro σ H1 ⟨v3, rfl, rfl, hn⟩
        exact absurd hsol (hn _ (Int.emod_nonneg _ (by omega)) (by have := Int.emod_lt_of_pos (a * k) hpos; omega))
end

theorem low_self {u v : Int} (hv : 0 < v) : (low u v = (u, v)) ↔ gI u v = 1 := by
  have hg := gI_pos (a := u) (b := v) (by omega)
  unfold low
  rw [if_neg (by omega)]
  constructor
  · intro h
    have h2 := congrArg Prod.snd h
    have h3 : v / gI u v = v := h2
    by_cases c : gI u v = 1
    · exact c
    · have : v / gI u v < v := Int.ediv_lt_of_lt_mul (by omega) (by
        have : v * 2 ≤ v * gI u v := Int.mul_le_mul_of_nonneg_left (by omega) (by omega)
        omega)
      omega
  · intro h
    rw [h, Int.ediv_one, Int.ediv_one]

section
variable {P : Program} {w : World} {K : PySem.W.Frag} {mg : Str → Option Value} {base : Heap}
/-! ### _law_world -/
def spLawWorld : Sp := fun vs H Q _ => ∃ (a : Addr) (ds : List Int), vs = [.ref a] ∧ H a = some (.lst (ds.map V.int)) ∧
  ∀ (p d : Int) (ds' : List Int) (x : Addr) (H' : Hp), SameBut a H H' → H' a = some (.lst (ds'.map V.int)) → H x = none → H' x = some (.tup [.int p, .int d]) → isW p d = true → Q (.ref x) H'
theorem ok_law_world {f a_law_next : Addr} {fd fd_law_next : FuncData} (F : Fun K "_law_world" "_law_world" s_law_world f fd) (z_int : mg "int" = none)
    (G_law_next : FnOk P w K mg base CX0 1 a_law_next fd_law_next ["draws"] spNext) (g_law_next : mg "_law_next" = some (.ref a_law_next)) (k_law_next : PySem.W.keepIn K (.ref a_law_next) = true) (b_law_next : Binds K fd_law_next ["draws"] []) :
    FnOk P w K mg base CX0 2 f fd ["draws"] spLawWorld := by
  refine F.ok sc_law_world (fun vs H Q E h => ?_) (fun cdv A outer s H vs Q E hr h => ?_)
  · obtain ⟨a, ds, rfl, _⟩ := h
    rfl
  · obtain ⟨a, ds, rfl, hL, q⟩ := h
    refine ⟨_, (pss_cons (ps_set (i := 1) sc_law_world.nd rfl (.inl rfl) (pe_ix ix_list (pe_lst (pa_cons pe_int (pa_cons pe_int (pa_cons pe_int (pa_cons pe_int (pa_cons pe_int (pa_cons pe_int (pa_cons pe_int (pa_cons pe_int pa_nil))))))))) (pe_op op_mod (pe_callTy call_int1 (by rfl) z_int boot_int (pa_cons (pe_call G_law_next (hr.mono (by decide)) rfl g_law_next k_law_next b_law_next .nil pass0 (pa_cons (pv 0) pa_nil)) pa_nil)) pe_int) (fun _ _ => rfl)))
  (pss_cons (ps_if (pt_cmpR op_eq (pv 1) pe_int (nomark _)) (pss_one (ps_ret (pe_tup (pa_cons pe_int (pa_cons (pe_op op_sub (pe_op op_mod (pe_callTy call_int1 (by rfl) z_int boot_int (pa_cons (pe_call G_law_next (hr.mono (by decide)) rfl g_law_next k_law_next b_law_next .nil pass0 (pa_cons (pv 0) pa_nil)) pa_nil)) pe_int) pe_int) pa_nil))))) pss_nil)
  (pss_one (ps_ret (pe_tup (pa_cons (pv 1) (pa_cons (pe_op op_mod (pe_callTy call_int1 (by rfl) z_int boot_int (pa_cons (pe_call G_law_next (hr.mono (by decide)) rfl g_law_next k_law_next b_law_next .nil pass0 (pa_cons (pv 0) pa_nil)) pa_nil)) (pv 1)) pa_nil)))))))
    , ?_⟩
    refine ⟨(by show 8 ≤ sizeLine; decide), fun l nl => ?_⟩
    have hal : a ≠ l := ne_of_none hL nl
    refine ⟨_, rfl, a, ds, rfl, (by rw [upd_ne hal]; exact hL), fun n ds1 => ?_⟩
    have m8 := mod_lt8 n (show (0 : Int) < 8 by decide)
    refine .inl ⟨n, rfl, n, 8, rfl, rfl, (show (0 : Int) < 8 by decide), l, wtab.map V.int, n % 8, .int (wtab.getD (n % 8).toNat 0), rfl, rfl, .inl (.inl (by rw [upd_ne (Ne.symm hal), upd_same]; rfl)), at_tab m8.1 m8.2, ?_⟩
    have hw := wtab_in (n % 8).toNat (by omega)
    generalize wtab.getD (n % 8).toNat 0 = p at hw
    have s1 : SameBut a H (upd (upd H l (.lst [.int 0, .int 0, .int 0, .int 2, .int 3, .int 5, .int 7, .int 31])) a (.lst (ds1.map V.int))) := (SameBut.new nl).trans SameBut.upd
    refine ⟨_, rfl, rfl, _, rfl, ite2 (fun e => ?_) (fun e => ?_)⟩
    · have e0 : p = 0 := V.int.inj (of_decide_eq_true e)
      refine ⟨_, rfl, a, ds1, rfl, upd_same, fun n2 ds2 => ?_⟩
      have m12 := mod_lt8 n2 (show (0 : Int) < 12 by decide)
      refine .inl ⟨n2, rfl, n2, 12, rfl, rfl, (show (0 : Int) < 12 by decide), _, 5, rfl, rfl, (by show 2 ≤ sizeLine; decide), fun r nr => ?_⟩
      have hra : a ≠ r := ne_of_none upd_same nr
      have nr' : H r = none := by
        rw [upd_ne (Ne.symm hra), upd_ne (Ne.symm hra)] at nr
        by_cases c : r = l
        · rw [c, upd_same] at nr
          cases nr
        · rwa [upd_ne c] at nr
      refine q 0 (n2 % 12 - 5) ds2 r _ ((s1.trans SameBut.upd).trans (SameBut.new nr)) (by rw [upd_ne hra, upd_same]) nr' upd_same ?_
      unfold isW
      rw [if_pos rfl, if_pos (by omega)]
      exact decide_eq_true (by omega)
    · have e0 : p ≠ 0 := fun z => e (decide_eq_true (congrArg V.int z))
      obtain ⟨_, hin, h2⟩ := hw.resolve_left e0
      have hpos : 0 < p := by omega
      refine ⟨_, rfl, _, rfl, a, ds1, rfl, upd_same, fun n2 ds2 => ?_⟩
      have mp := mod_lt8 n2 hpos
      refine .inl ⟨n2, rfl, _, rfl, n2, p, rfl, rfl, hpos, (by show 2 ≤ sizeLine; decide), fun r nr => ?_⟩
      have hra : a ≠ r := ne_of_none upd_same nr
      have nr' : H r = none := by
        rw [upd_ne (Ne.symm hra), upd_ne (Ne.symm hra)] at nr
        by_cases c : r = l
        · rw [c, upd_same] at nr
          cases nr
        · rwa [upd_ne c] at nr
      refine q p (n2 % p) ds2 r _ ((s1.trans SameBut.upd).trans (SameBut.new nr)) (by rw [upd_ne hra, upd_same]) nr' upd_same ?_
      unfold isW
      rw [if_neg e0, if_pos hin, if_pos mp.1]
      exact decide_eq_true mp.2
end

def isP (l : List Int) : Bool := if (l.length : Int) > 200 then false else if l.length = 0 then true else !decide (co l (l.length - 1) = 0)
theorem isP_pol {l : List Int} (h : isP l = true) : Pol l ∧ l.length ≤ 200 := by
  unfold isP at h
  by_cases c : (l.length : Int) > 200
  · rw [if_pos c] at h
    exact nomatch h
  rw [if_neg c] at h
  refine ⟨?_, by omega⟩
  by_cases c0 : l.length = 0
  · exact .inl (List.eq_nil_of_length_eq_zero c0)
  · rw [if_neg c0] at h
    refine .inr fun z => ?_
    rw [decide_eq_true z] at h
    exact nomatch h
theorem pol_isP {l : List Int} (h : Pol l) (hl : l.length ≤ 200) : isP l = true := by
  unfold isP
  rw [if_neg (by omega)]
  by_cases c0 : l.length = 0
  · rw [if_pos c0]
  · rw [if_neg c0]
    rcases h with rfl | h
    · exact absurd rfl c0
    · rw [decide_eq_false h]
      rfl
section
variable {P : Program} {w : World} {K : PySem.W.Frag} {mg : Str → Option Value} {base : Heap}
/-! ### is_poly, check_poly -/
def spIsPoly (K : PySem.W.Frag) : Sp := fun vs H Q _ => ∃ (a : Addr) (l : List Int), vs = [.ref a] ∧ SqT K H a (l.map V.int) ∧ Q (.bl (isP l)) H
theorem ok_is_poly {f : Addr} {fd : FuncData} {tm : Tok} (F : Fun K "is_poly" "is_poly" s_is_poly f fd) (z_len : mg "len" = none) (m_MOST_PARTS : mg "MOST_PARTS" = some (.int 200 tm)) : FnOk P w K mg base CX0 1 f fd ["poly"] (spIsPoly K) := by
  have r_MOST_PARTS : RelV (.int 200) (.int 200 tm) := ⟨_, rfl⟩
  refine F.ok sc_is_poly (fun vs H Q E h => ?_) (fun cdv A outer s H vs Q E hr h => ?_)
  · obtain ⟨a, l, rfl, _⟩ := h
    rfl
  · obtain ⟨a, l, rfl, ha, q⟩ := h
    refine ⟨_, (pss_cons (ps_if (pt_cmpR op_gt (pe_callB call_len_seq (by rfl) z_len boot_len (pa_cons (pv 0) pa_nil)) (pe_glob rfl m_MOST_PARTS r_MOST_PARTS) (nomark _)) (pss_one (ps_ret pe_bl)) pss_nil)
  (pss_one (ps_ret (pe_or (pe_cmpR op_eq (pe_callB call_len_seq (by rfl) z_len boot_len (pa_cons (pv 0) pa_nil)) pe_int (nomark _)) (pe_one (pe_cmpR op_ne (pe_ix ix_tup (pv 0) (pe_un un_neg pe_int) (fun _ _ => rfl)) pe_int (nomark _))))))), ?_⟩
    unfold isP at q
    refine ⟨_, rfl, a, _, rfl, .inr ha, _, _, rfl, rfl, _, rfl, ?_⟩
    rw [List.length_map]
    by_cases c : (l.length : Int) > 200
    · rw [if_pos c] at q
      rw [decide_eq_true c]
      exact iteT q
    rw [if_neg c] at q
    rw [decide_eq_false c]
    refine iteF ?_
    refine ⟨_, rfl, a, _, rfl, .inr ha, rfl, _, rfl, ?_⟩
    rw [List.length_map]
    by_cases c0 : l.length = 0
    · rw [if_pos c0] at q
      rw [decide_eq_true (show V.int ((l.length : Nat) : Int) = V.int 0 by rw [c0]; rfl)]
      exact iteT q
    · rw [if_neg c0] at q
      rw [decide_eq_false (fun z => c0 (by have := V.int.inj z; omega))]
      refine iteF ?_
      refine ⟨_, rfl, _, rfl, a, _, _, _, rfl, rfl, ha, at_end (fun z => c0 (by rw [z]; rfl)), rfl, ?_⟩
      have e : decide (V.int (co l (l.length - 1)) = V.int 0) = decide (co l (l.length - 1) = 0) := by
        by_cases c1 : co l (l.length - 1) = 0
        · rw [decide_eq_true c1, decide_eq_true (congrArg V.int c1)]
        · rw [decide_eq_false c1, decide_eq_false (fun z => c1 (V.int.inj z))]
      rw [e]
      exact q
def spCheckPoly (K : PySem.W.Frag) (CP : Addr) : Sp := fun vs H Q E => ∃ (a : Addr) (l : List Int), vs = [.ref a] ∧ SqT K H a (l.map V.int) ∧ (isP l = true → Q .non H) ∧ (isP l = false → E (.ref CP) none H)
theorem ok_check_poly {f CP a_is_poly : Addr} {fd fd_is_poly : FuncData} (F : Fun K "check_poly" "check_poly" s_check_poly f fd) (T : ErrC K mg "NotPoly" CP)
    (G_is_poly : FnOk P w K mg base CX0 1 a_is_poly fd_is_poly ["poly"] (spIsPoly K)) (g_is_poly : mg "is_poly" = some (.ref a_is_poly)) (k_is_poly : PySem.W.keepIn K (.ref a_is_poly) = true) (b_is_poly : Binds K fd_is_poly ["poly"] []) : FnOk P w K mg base (L2.CX P w) 2 f fd ["poly"] (spCheckPoly K CP) := by
  obtain ⟨gc_NotPoly, x_NotPoly, kc_NotPoly, bc_NotPoly, tc_NotPoly⟩ := T
  refine F.okX sc_check_poly (fun vs H Q E h => ?_) (fun cdv A outer s H vs Q E hr h => ?_)
  · obtain ⟨a, l, rfl, _⟩ := h
    rfl
  · obtain ⟨a, l, rfl, ha, q1, q2⟩ := h
    refine ⟨_, (pss_one (ps_if (pt_not (pt_val (pe_call G_is_poly (hr.mono (by decide)) rfl g_is_poly k_is_poly b_is_poly .nil pass0 (pa_cons (pv 0) pa_nil)))) (pss_one (ps_raise rfl (takes_of rfl rfl rfl rfl) (pmk_own PySem.F.excBase_ValueError x_NotPoly gc_NotPoly kc_NotPoly (raises_own bc_NotPoly tc_NotPoly) rfl))) pss_nil)), ?_⟩
    refine ⟨_, rfl, a, l, rfl, ha, _, rfl, ?_⟩
    cases e : isP l with
    | true => exact iteF (q1 e)
    | false => exact iteT (q2 e)
end

theorem sqL_same {K : PySem.W.Frag} {H H' : Hp} {a : Addr} {xs : List V} (e : Same H H') (h : SqL K H a xs) : SqL K H' a xs := by
  rcases h with (h | ⟨o, h⟩) | h
  · exact .inl (.inl (e _ _ h))
  · exact .inl (.inr ⟨o, e _ _ h⟩)
  · exact .inr h
theorem none_back {H H' : Hp} {a : Addr} (s : Same H H') (h : H' a = none) : H a = none := by
  cases e : H a with
  | none => rfl
  | some o =>
    rw [s _ _ e] at h
    exact nomatch h

theorem cut_to {l : List Int} {s : Nat} (h : s ≤ l.length) : cutV (l.map V.int) none (some (s : Int)) = (l.take s).map V.int := by
  unfold cutV
  rw [HT.sIx_none, HT.sIx_nat, List.length_map, Nat.min_eq_left h, List.drop_zero, Nat.sub_zero, ← List.map_take]
/-- no more than zeros from s on -/
def Zs (l : List Int) (s : Nat) : Prop := s ≤ l.length ∧ ∀ i, s ≤ i → co l i = 0
theorem zs_all (l : List Int) : Zs l l.length := ⟨Nat.le_refl _, fun i h => co_ge h⟩
theorem zs_less {l : List Int} {s : Nat} (h : Zs l s) (hs : 0 < s) (h0 : co l (s - 1) = 0) : Zs l (s - 1) := by
  obtain ⟨h1, h2⟩ := h
  refine ⟨by omega, fun i hi => ?_⟩
  by_cases c : i = s - 1
  · rw [c]
    exact h0
  · exact h2 i (by omega)
/-- what a trimmed tuple is -/
structure Tr (l zs : List Int) : Prop where
  pol : Pol zs
  co : ∀ k, co zs k = T.co l k
  len : zs.length ≤ l.length
theorem tr_of {l : List Int} {s : Nat} (h : Zs l s) (h0 : s = 0 ∨ co l (s - 1) ≠ 0) : Tr l (l.take s) :=
  ⟨pol_take h.1 h0 h.2, fun _ => co_take h.2, by rw [List.length_take]; omega⟩
/-- one row more, j entries of it -/
def part (one other : List Int) (i j k : Nat) : Int := conv one other i k + (if i ≤ k ∧ k - i < j then co one i * co other (k - i) else 0)
theorem part_0 (one other : List Int) (i k : Nat) : part one other i 0 k = conv one other i k := by
  unfold part
  rw [if_neg (by omega), Int.add_zero]
theorem part_end (one other : List Int) (i k : Nat) : part one other i other.length k = conv one other (i + 1) k := by
  show _ = conv one other i k + row one other i k
  unfold part row
  by_cases c : i ≤ k
  · rw [if_pos c]
    by_cases c2 : k - i < other.length
    · rw [if_pos ⟨c, c2⟩]
    · rw [if_neg (fun z => c2 z.2), co_ge (l := other) (by omega), Int.mul_zero]
  · rw [if_neg c, if_neg (fun z => c z.1)]
theorem part_step (one other : List Int) (i j k : Nat) : part one other i (j + 1) k = if k = i + j then part one other i j k + co one i * co other j else part one other i j k := by
  unfold part
  by_cases c : k = i + j
  · rw [if_pos c, if_pos (by omega), if_neg (by omega), show k - i = j by omega, Int.add_zero]
  · rw [if_neg c]
    by_cases c2 : i ≤ k ∧ k - i < j
    · rw [if_pos c2, if_pos (by omega)]
    · rw [if_neg c2, if_neg (by omega)]
def prodLen (l m : List Int) : Nat := if l = [] ∨ m = [] then 0 else l.length + m.length - 1
theorem conv_lead {l m : List Int} (hl : l ≠ []) (hm : m ≠ []) : conv l m l.length (l.length + m.length - 2) = co l (l.length - 1) * co m (m.length - 1) := by
  have h1 := List.length_pos_iff.mpr hl
  have h2 := List.length_pos_iff.mpr hm
  rw [show l.length = (l.length - 1) + 1 by omega]
  show conv l m (l.length - 1) (l.length - 1 + 1 + m.length - 2) + row l m (l.length - 1) (l.length - 1 + 1 + m.length - 2) = _
  rw [conv_top l m (l.length - 1) (by omega) (by omega)]
  unfold row
  rw [if_pos (by omega), show l.length - 1 + 1 + m.length - 2 - (l.length - 1) = m.length - 1 by omega, Int.zero_add]
  rfl

section
variable {P : Program} {w : World} {K : PySem.W.Frag} {mg : Str → Option Value} {base : Heap}
/-! ### _part -/
def spPart (K : PySem.W.Frag) : Sp := fun vs H Q _ => ∃ (a : Addr) (l : List Int) (k : Nat), vs = [.ref a, .int k] ∧ SqT K H a (l.map V.int) ∧ Q (.int (co l k)) H
theorem ok_part_ {f : Addr} {fd : FuncData} (F : Fun K "_part" "_part" s_part_ f fd) (z_len : mg "len" = none) : FnOk P w K mg base CX0 1 f fd ["poly", "k"] (spPart K) := by
  refine F.ok sc_part_ (fun vs H Q E h => ?_) (fun cdv A outer s H vs Q E hr h => ?_)
  · obtain ⟨a, l, k, rfl, _⟩ := h
    rfl
  · obtain ⟨a, l, k, rfl, ha, q⟩ := h
    refine ⟨_, (pss_one (ps_ret (pe_ifExp (pt_cmpR op_lt (pv 1) (pe_callB call_len_seq (by rfl) z_len boot_len (pa_cons (pv 0) pa_nil)) (nomark _)) (pe_ix ix_tup (pv 0) (pv 1) (fun _ _ => rfl)) pe_int))), ?_⟩
    refine ⟨_, rfl, _, rfl, a, _, rfl, .inr ha, _, _, rfl, rfl, _, rfl, ?_⟩
    rw [List.length_map]
    by_cases c : k < l.length
    · rw [decide_eq_true (show ((k : Nat) : Int) < ((l.length : Nat) : Int) by omega)]
      exact iteT ⟨_, rfl, _, rfl, a, _, _, _, rfl, rfl, ha, at_co c, q⟩
    · rw [decide_eq_false (show ¬ ((k : Nat) : Int) < ((l.length : Nat) : Int) by omega)]
      rw [co_ge (by omega)] at q
      exact iteF q
end

section
variable {P : Program} {w : World} {K : PySem.W.Frag} {mg : Str → Option Value} {base : Heap}
/-! ### _trimmed -/
def spTrimmed (K : PySem.W.Frag) : Sp := fun vs H Q _ => ∃ (a : Addr) (l : List Int), vs = [.ref a] ∧ SqL K H a (l.map V.int) ∧ ∀ t zs H', Same H H' → H' t = some (.tup (zs.map V.int)) → Tr l zs → Q (.ref t) H'
theorem ok_trimmed_ {f : Addr} {fd : FuncData} (F : Fun K "_trimmed" "_trimmed" s_trimmed_ f fd) (z_len : mg "len" = none) (z_tuple : mg "tuple" = none) : FnOk P w K mg base CX0 1 f fd ["parts"] (spTrimmed K) := by
  refine F.ok sc_trimmed_ (fun vs H Q E h => ?_) (fun cdv A outer s H vs Q E hr h => ?_)
  · obtain ⟨a, l, rfl, _⟩ := h
    rfl
  · obtain ⟨a, l, rfl, ha, q⟩ := h
    refine ⟨_, (pss_cons (ps_set (i := 1) sc_trimmed_.nd rfl (.inl rfl) (pe_callB call_len_seq (by rfl) z_len boot_len (pa_cons (pv 0) pa_nil)))
  (pss_cons (ps_while PassesOwn.never (L2.PW.pt (pw_and (pt_cmpR op_gt (pv 1) pe_int (nomark _)) (pw_and1 (pt_cmpR op_eq (pe_ix ix_list (pv 0) (pe_op op_sub (pv 1) pe_int) (fun _ _ => rfl)) pe_int (nomark _))))) (pss_one (ps_set (i := 1) sc_trimmed_.nd rfl (.inl rfl) (pe_op op_sub (pv 1) pe_int))))
  (pss_one (ps_ret (pe_callTy call_tuple_of (by rfl) z_tuple boot_tuple (pa_cons (pe_slice sl_list (pv 0) po_none (po_some (pv 1))) pa_nil)))))), ?_⟩
    refine ⟨_, rfl, a, _, rfl, .inl ha, ?_⟩
    rw [List.length_map]
    refine ⟨fun m σ H' => H' = H ∧ ∃ s : Nat, m = s ∧ σ = [some (.ref a), some (.int (s : Int))] ∧ Zs l s, ⟨_, rfl, l.length, rfl, rfl, zs_all l⟩, ?_⟩
    rintro m0 σ H' ⟨rfl, m, rfl, rfl, hz⟩
    refine ⟨_, rfl, _, _, rfl, rfl, _, rfl, ?_⟩
    have done : (m0 = 0 ∨ co l (m0 - 1) ≠ 0) → ∀ p, H' p = none → ∀ t, upd H' p (.lst (cutV (l.map V.int) none (some (m0 : Int)))) t = none → Q (.ref t) (upd (upd H' p (.lst (cutV (l.map V.int) none (some (m0 : Int))))) t (.tup (cutV (l.map V.int) none (some (m0 : Int))))) := fun h0 p np t nt => by
      refine q t (l.take m0) _ (Same.trans (same_upd np) (same_upd nt)) ?_ (tr_of hz h0)
      rw [upd_same, cut_to hz.1]
    by_cases c : 0 < m0
    · rw [decide_eq_true (show ((m0 : Nat) : Int) > 0 by omega)]
      refine iteT ?_
      have es : ((m0 : Nat) : Int) - 1 = ((m0 - 1 : Nat) : Int) := by omega
      refine ⟨_, rfl, _, rfl, _, _, rfl, rfl, a, _, _, _, rfl, rfl, ha, (by rw [es]; exact at_co (show m0 - 1 < l.length by have := hz.1; omega)), rfl, _, rfl, ?_⟩
      by_cases c0 : co l (m0 - 1) = 0
      · rw [decide_eq_true (congrArg V.int c0)]
        refine iteT ⟨_, fun _ _ n => n, _, rfl, _, _, rfl, rfl, m0 - 1, by omega, rfl, m0 - 1, rfl, by rw [← es]; rfl, zs_less hz c c0⟩
      · rw [decide_eq_false (fun z => c0 (V.int.inj z))]
        exact iteF ⟨_, rfl, _, rfl, _, rfl, a, _, rfl, ha, fun p np => ⟨p, _, rfl, .inl ⟨.inl (.inl upd_same), fun t nt => done (.inr c0) p np t nt⟩⟩⟩
    · rw [decide_eq_false (show ¬ ((m0 : Nat) : Int) > 0 by omega)]
      exact iteF (iteF ⟨_, rfl, _, rfl, _, rfl, a, _, rfl, ha, fun p np => ⟨p, _, rfl, .inl ⟨.inl (.inl upd_same), fun t nt => done (.inl (by omega)) p np t nt⟩⟩⟩)
end

def spCombined (K : PySem.W.Frag) : Sp := fun vs H Q _ => ∃ (a b : Addr) (l m : List Int) (f : Int), vs = [.ref a, .ref b, .int f] ∧ SqT K H a (l.map V.int) ∧ SqT K H b (m.map V.int) ∧ (f = 1 ∨ f = -1) ∧ l.length ≤ 1000 ∧ m.length ≤ 1000 ∧
  ∀ t zs H', Same H H' → H' t = some (.tup (zs.map V.int)) → Pol zs → (∀ k, co zs k = co l k + f * co m k) → zs.length ≤ max l.length m.length → Q (.ref t) H'
section
variable {P : Program} {w : World} {K : PySem.W.Frag} {mg : Str → Option Value} {base : Heap}
/-! ### _combined -/
theorem ok_combined_ {f a_part_ a_trimmed_ : Addr} {fd fd_part_ fd_trimmed_ : FuncData} (F : Fun K "_combined" "_combined" s_combined_ f fd) (z_len : mg "len" = none) (z_max : mg "max" = none) (z_range : mg "range" = none)
    (G_part_ : FnOk P w K mg base CX0 1 a_part_ fd_part_ ["poly", "k"] (spPart K)) (g_part_ : mg "_part" = some (.ref a_part_)) (k_part_ : PySem.W.keepIn K (.ref a_part_) = true) (b_part_ : Binds K fd_part_ ["poly", "k"] [])
    (G_trimmed_ : FnOk P w K mg base CX0 1 a_trimmed_ fd_trimmed_ ["parts"] (spTrimmed K)) (g_trimmed_ : mg "_trimmed" = some (.ref a_trimmed_)) (k_trimmed_ : PySem.W.keepIn K (.ref a_trimmed_) = true) (b_trimmed_ : Binds K fd_trimmed_ ["parts"] []) : FnOk P w K mg base CX0 2 f fd ["one", "other", "factor"] (spCombined K) := by
  refine F.ok sc_combined_ (fun vs H Q E h => ?_) (fun cdv A outer s H vs Q E hr h => ?_)
  · obtain ⟨a, b, l, m, g, rfl, _⟩ := h
    rfl
  · obtain ⟨a, b, l, m, g, rfl, ha, hb, hg, ll, lm, q⟩ := h
    refine ⟨_, (pss_cons (ps_set (i := 3) sc_combined_.nd rfl (.inl rfl) (pe_callB (call_max2 rfl) (by rfl) z_max boot_max (pa_cons (pe_callB call_len_seq (by rfl) z_len boot_len (pa_cons (pv 0) pa_nil)) (pa_cons (pe_callB call_len_seq (by rfl) z_len boot_len (pa_cons (pv 1) pa_nil)) pa_nil))))
  (pss_one (ps_ret (pe_call G_trimmed_ (hr.mono (by decide)) rfl g_trimmed_ k_trimmed_ b_trimmed_ .nil pass0 (pa_cons (pe_lc (own := [("k", 4)]) rfl sc_combined_.nd (pi_range1 rfl z_range (pa_cons (pv 3) pa_nil)) (blkOk_by (N := ["one", "other", "factor", "size", "k"]) (sc := defScope s_combined_) (by first | decide +kernel | rfl)) (fun _ _ _ _ _ => (pg_name (i := 4) sc_combined_.nd rfl (.inl rfl))) (fun _ _ _ _ _ => pts_nil) (fun _ _ _ _ _ => (pe_op op_add (pe_call G_part_ (hr.mono (by decide)) rfl g_part_ k_part_ b_part_ .nil pass0 (pa_cons (pv 0) (pa_cons (pv 4) pa_nil))) (pe_op op_mul (pv 2) (pe_call G_part_ (hr.mono (by decide)) rfl g_part_ k_part_ b_part_ .nil pass0 (pa_cons (pv 1) (pa_cons (pv 4) pa_nil))))))) pa_nil))))), ?_⟩
    have szl : 2000 ≤ sizeLine := by decide
    refine ⟨_, rfl, a, _, rfl, .inr ha, _, rfl, b, _, rfl, .inr hb, _, _, rfl, ?_⟩
    rw [List.length_map, List.length_map]
    have em : (if ((m.length : Nat) : Int) > ((l.length : Nat) : Int) then ((m.length : Nat) : Int) else ((l.length : Nat) : Int)) = ((max l.length m.length : Nat) : Int) := by
      by_cases c : m.length > l.length
      · rw [if_pos (by omega), Nat.max_eq_right (by omega)]
      · rw [if_neg (by omega), Nat.max_eq_left (by omega)]
    rw [em]
    have mx : max l.length m.length ≤ 1000 := Nat.max_le.mpr ⟨ll, lm⟩
    generalize eN : max l.length m.length = N at mx q em
    refine ⟨_, rfl, _, rfl, by omega, by omega, fun D nD => ?_⟩
    let cs : List Int := (List.range N).map fun k => co l k + g * co m k
    have lcs : cs.length = N := by simp [cs]
    have ccs : ∀ k, co cs k = co l k + g * co m k := fun k => by
      rcases Nat.lt_or_ge k N with c | c
      · show ((List.range N).map fun k => co l k + g * co m k).getD k 0 = _
        rw [List.getD_eq_getElem?_getD, List.getElem?_map, List.getElem?_range c]
        rfl
      · have h1 : l.length ≤ N := by rw [← eN]; exact Nat.le_max_left _ _
        have h2 : m.length ≤ N := by rw [← eN]; exact Nat.le_max_right _ _
        rw [co_ge (by omega), co_ge (l := l) (by omega), co_ge (l := m) (by omega)]
        simp
    refine lc_range (lo := 0) (n := N) (fun i H' => SameBut D H H' ∧ H' D = some (.lst ((cs.take i).map V.int))) ⟨SameBut.upd, upd_same⟩ (fun i H' hi hP => ?_) (fun H' hP => ?_)
    · obtain ⟨sb, hD⟩ := hP
      have na : a ≠ D ∨ True := .inr trivial
      have tr : ∀ {x : Addr} {xs : List V}, SqT K H x xs → SqT K H' x xs := fun h => sqT_same (fun c o e => sb _ _ (ne_of_none e nD) e) h
      refine ⟨rfl, ?_⟩
      rw [Int.zero_add]
      have fin : ∃ acc, H' D = some (.lst acc) ∧ acc.length < sizeLine ∧ (SameBut D H (upd H' D (.lst (acc ++ [V.int (co l i + g * co m i)]))) ∧ upd H' D (.lst (acc ++ [V.int (co l i + g * co m i)])) D = some (.lst ((cs.take (i + 1)).map V.int))) := by
        refine ⟨_, hD, ?_, sb.trans SameBut.upd, ?_⟩
        · rw [List.length_map, List.length_take]
          omega
        · rw [upd_same, List.take_succ, co_get (by omega), ccs, List.map_append]
          rfl
      refine ⟨_, rfl, _, rfl, a, l, i, rfl, tr ha, _, rfl, _, rfl, _, rfl, b, m, i, rfl, tr hb, g, _, rfl, rfl, .inl (by rcases hg with rfl | rfl <;> exact ⟨by decide, by decide⟩), _, _, rfl, rfl, fin⟩
    · obtain ⟨sb, hD⟩ := hP
      rw [show cs.take N = cs by rw [← lcs, List.take_length]] at hD
      refine ⟨D, cs, rfl, .inl (.inl hD), fun t zs H2 s2 ht tr => ?_⟩
      refine q t zs H2 (Same.trans (fun c o e => sb _ _ (ne_of_none e nD) e) s2) ht tr.pol (fun k => by rw [tr.co, ccs]) (by have := tr.len; omega)
end

def spAdd (K : PySem.W.Frag) (CP : Addr) (g : Int) : Sp := fun vs H Q E => ∃ (a b : Addr) (l m : List Int), vs = [.ref a, .ref b] ∧ SqT K H a (l.map V.int) ∧ SqT K H b (m.map V.int) ∧ (isP l = false → E (.ref CP) none H) ∧ (isP l = true → isP m = false → E (.ref CP) none H) ∧
  (isP l = true → isP m = true → ∀ t zs H', Same H H' → H' t = some (.tup (zs.map V.int)) → Pol zs → (∀ k, co zs k = co l k + g * co m k) → zs.length ≤ max l.length m.length → Q (.ref t) H')
section
variable {P : Program} {w : World} {K : PySem.W.Frag} {mg : Str → Option Value} {base : Heap}
/-! ### added -/
theorem ok_added {f CP a_check_poly a_combined_ : Addr} {fd fd_check_poly fd_combined_ : FuncData} (F : Fun K "added" "added" s_added f fd)
    (G_check_poly : FnOk P w K mg base (L2.CX P w) 2 a_check_poly fd_check_poly ["poly"] (spCheckPoly K CP)) (g_check_poly : mg "check_poly" = some (.ref a_check_poly)) (k_check_poly : PySem.W.keepIn K (.ref a_check_poly) = true) (b_check_poly : Binds K fd_check_poly ["poly"] [])
    (G_combined_ : FnOk P w K mg base CX0 2 a_combined_ fd_combined_ ["one", "other", "factor"] (spCombined K)) (g_combined_ : mg "_combined" = some (.ref a_combined_)) (k_combined_ : PySem.W.keepIn K (.ref a_combined_) = true) (b_combined_ : Binds K fd_combined_ ["one", "other", "factor"] []) : FnOk P w K mg base (L2.CX P w) 3 f fd ["one", "other"] (spAdd K CP (1)) := by
  refine F.okX sc_added (fun vs H Q E h => ?_) (fun cdv A outer s H vs Q E hr h => ?_)
  · obtain ⟨a, b, l, m, rfl, _⟩ := h
    rfl
  · obtain ⟨a, b, l, m, rfl, ha, hb, q1, q2, q⟩ := h
    refine ⟨_, (pss_cons (ps_expr (pe_call G_check_poly (hr.mono (by decide)) rfl g_check_poly k_check_poly b_check_poly .nil (passes_call (takes_of rfl rfl rfl rfl) (fun _ _ _ _ h => h)) (pa_cons (pv 0) pa_nil)))
  (pss_cons (ps_expr (pe_call G_check_poly (hr.mono (by decide)) rfl g_check_poly k_check_poly b_check_poly .nil (passes_call (takes_of rfl rfl rfl rfl) (fun _ _ _ _ h => h)) (pa_cons (pv 1) pa_nil)))
  (pss_one (ps_ret (pe_call G_combined_ (hr.mono (by decide)) rfl g_combined_ k_combined_ b_combined_ .nil pass0 (pa_cons (pv 0) (pa_cons (pv 1) (pa_cons pe_int pa_nil)))))))), ?_⟩
    refine ⟨_, rfl, a, l, rfl, ha, fun e1 => ?_, q1⟩
    refine ⟨_, rfl, b, m, rfl, hb, fun e2 => ?_, q2 e1⟩
    have h1 := (isP_pol e1).2
    have h2 := (isP_pol e2).2
    exact ⟨_, rfl, _, rfl, a, b, l, m, 1, rfl, ha, hb, .inl rfl, by omega, by omega, q e1 e2⟩
end

section
variable {P : Program} {w : World} {K : PySem.W.Frag} {mg : Str → Option Value} {base : Heap}
/-! ### subtracted -/
theorem ok_subtracted {f CP a_check_poly a_combined_ : Addr} {fd fd_check_poly fd_combined_ : FuncData} (F : Fun K "subtracted" "subtracted" s_subtracted f fd)
    (G_check_poly : FnOk P w K mg base (L2.CX P w) 2 a_check_poly fd_check_poly ["poly"] (spCheckPoly K CP)) (g_check_poly : mg "check_poly" = some (.ref a_check_poly)) (k_check_poly : PySem.W.keepIn K (.ref a_check_poly) = true) (b_check_poly : Binds K fd_check_poly ["poly"] [])
    (G_combined_ : FnOk P w K mg base CX0 2 a_combined_ fd_combined_ ["one", "other", "factor"] (spCombined K)) (g_combined_ : mg "_combined" = some (.ref a_combined_)) (k_combined_ : PySem.W.keepIn K (.ref a_combined_) = true) (b_combined_ : Binds K fd_combined_ ["one", "other", "factor"] []) : FnOk P w K mg base (L2.CX P w) 3 f fd ["one", "other"] (spAdd K CP (-1)) := by
  refine F.okX sc_subtracted (fun vs H Q E h => ?_) (fun cdv A outer s H vs Q E hr h => ?_)
  · obtain ⟨a, b, l, m, rfl, _⟩ := h
    rfl
  · obtain ⟨a, b, l, m, rfl, ha, hb, q1, q2, q⟩ := h
    refine ⟨_, (pss_cons (ps_expr (pe_call G_check_poly (hr.mono (by decide)) rfl g_check_poly k_check_poly b_check_poly .nil (passes_call (takes_of rfl rfl rfl rfl) (fun _ _ _ _ h => h)) (pa_cons (pv 0) pa_nil)))
  (pss_cons (ps_expr (pe_call G_check_poly (hr.mono (by decide)) rfl g_check_poly k_check_poly b_check_poly .nil (passes_call (takes_of rfl rfl rfl rfl) (fun _ _ _ _ h => h)) (pa_cons (pv 1) pa_nil)))
  (pss_one (ps_ret (pe_call G_combined_ (hr.mono (by decide)) rfl g_combined_ k_combined_ b_combined_ .nil pass0 (pa_cons (pv 0) (pa_cons (pv 1) (pa_cons (pe_un un_neg pe_int) pa_nil)))))))), ?_⟩
    refine ⟨_, rfl, a, l, rfl, ha, fun e1 => ?_, q1⟩
    refine ⟨_, rfl, b, m, rfl, hb, fun e2 => ?_, q2 e1⟩
    have h1 := (isP_pol e1).2
    have h2 := (isP_pol e2).2
    exact ⟨_, rfl, _, rfl, _, rfl, a, b, l, m, -1, rfl, ha, hb, .inr rfl, by omega, by omega, q e1 e2⟩
end

def spMul (K : PySem.W.Frag) (CP CT : Addr) : Sp := fun vs H Q E => ∃ (a b : Addr) (l m : List Int), vs = [.ref a, .ref b] ∧ SqT K H a (l.map V.int) ∧ SqT K H b (m.map V.int) ∧ (isP l = false → E (.ref CP) none H) ∧ (isP l = true → isP m = false → E (.ref CP) none H) ∧
  (isP l = true → isP m = true → (prodLen l m > 200 → E (.ref CT) none H) ∧ (prodLen l m ≤ 200 → (∀ x ∈ l, ∀ y ∈ m, CMul x y) ∧
    ∀ t zs H', Same H H' → H' t = some (.tup (zs.map V.int)) → Pol zs → (∀ k, co zs k = conv l m l.length k) → zs.length = prodLen l m → Q (.ref t) H'))
section
variable {P : Program} {w : World} {K : PySem.W.Frag} {mg : Str → Option Value} {base : Heap}
/-! ### multiplied_polys -/
theorem ok_multiplied_polys {f CP CT a_check_poly : Addr} {fd fd_check_poly : FuncData} {tm : Tok} (F : Fun K "multiplied_polys" "multiplied_polys" s_multiplied_polys f fd) (z_len : mg "len" = none) (z_tuple : mg "tuple" = none) (z_enumerate : mg "enumerate" = none)
    (T : ErrC K mg "TooLarge" CT) (m_MOST_PARTS : mg "MOST_PARTS" = some (.int 200 tm))
    (G_check_poly : FnOk P w K mg base (L2.CX P w) 2 a_check_poly fd_check_poly ["poly"] (spCheckPoly K CP)) (g_check_poly : mg "check_poly" = some (.ref a_check_poly)) (k_check_poly : PySem.W.keepIn K (.ref a_check_poly) = true) (b_check_poly : Binds K fd_check_poly ["poly"] []) : FnOk P w K mg base (L2.CX P w) 3 f fd ["one", "other"] (spMul K CP CT) := by
  obtain ⟨gc_TooLarge, x_TooLarge, kc_TooLarge, bc_TooLarge, tc_TooLarge⟩ := T
  have r_MOST_PARTS : RelV (.int 200) (.int 200 tm) := ⟨_, rfl⟩
  refine F.okX sc_multiplied_polys (fun vs H Q E h => ?_) (fun cdv A outer s H vs Q E hr h => ?_)
  · obtain ⟨a, b, l, m, rfl, _⟩ := h
    rfl
  · obtain ⟨a, b, l, m, rfl, ha, hb, q1, q2, q⟩ := h
    refine ⟨_, (pss_cons (ps_expr (pe_call G_check_poly (hr.mono (by decide)) rfl g_check_poly k_check_poly b_check_poly .nil (passes_call (takes_of rfl rfl rfl rfl) (fun _ _ _ _ h => h)) (pa_cons (pv 0) pa_nil)))
  (pss_cons (ps_expr (pe_call G_check_poly (hr.mono (by decide)) rfl g_check_poly k_check_poly b_check_poly .nil (passes_call (takes_of rfl rfl rfl rfl) (fun _ _ _ _ h => h)) (pa_cons (pv 1) pa_nil)))
  (pss_cons (ps_if (L2.PW.pt (pw_or (pt_not (pt_truth (pv 0) (by intro _; rfl))) (pw_or1 (pt_not (pt_truth (pv 1) (by intro _; rfl)))))) (pss_one (ps_ret (pe_tup pa_nil))) pss_nil)
  (pss_cons (ps_if (pt_cmpR op_gt (pe_op op_sub (pe_op op_add (pe_callB call_len_seq (by rfl) z_len boot_len (pa_cons (pv 0) pa_nil)) (pe_callB call_len_seq (by rfl) z_len boot_len (pa_cons (pv 1) pa_nil))) pe_int) (pe_glob rfl m_MOST_PARTS r_MOST_PARTS) (nomark _)) (pss_one (ps_raise rfl (takes_of rfl rfl rfl rfl) (pmk_own PySem.F.excBase_ValueError x_TooLarge gc_TooLarge kc_TooLarge (raises_own bc_TooLarge tc_TooLarge) rfl))) pss_nil)
  (pss_cons (ps_set (i := 2) sc_multiplied_polys.nd rfl (.inl rfl) (pe_op op_rep (pe_lst (pa_cons pe_int pa_nil)) (pe_op op_sub (pe_op op_add (pe_callB call_len_seq (by rfl) z_len boot_len (pa_cons (pv 0) pa_nil)) (pe_callB call_len_seq (by rfl) z_len boot_len (pa_cons (pv 1) pa_nil))) pe_int)))
  (pss_cons (ps_for (passes_of rfl) rfl (pi_enumT rfl z_enumerate (pa_cons (pv 0) pa_nil)) (pg_tup rfl (pgs_cons (pg_name (i := 3) sc_multiplied_polys.nd rfl (.inl rfl)) (pgs_cons (pg_name (i := 4) sc_multiplied_polys.nd rfl (.inl rfl)) pgs_nil))) (pss_one (ps_for (passes_of rfl) rfl (pi_enumT rfl z_enumerate (pa_cons (pv 1) pa_nil)) (pg_tup rfl (pgs_cons (pg_name (i := 5) sc_multiplied_polys.nd rfl (.inl rfl)) (pgs_cons (pg_name (i := 6) sc_multiplied_polys.nd rfl (.inl rfl)) pgs_nil))) (pss_one (ps_asg (pe_op op_add (pe_ix ix_list (pv 2) (pe_op op_add (pv 3) (pv 5)) (fun _ _ => rfl)) (pe_op op_mul (pv 4) (pv 6))) (pg_sub (pv 2) (pe_op op_add (pv 3) (pv 5)) set_list))))))
  (pss_one (ps_ret (pe_callTy call_tuple_of (by rfl) z_tuple boot_tuple (pa_cons (pv 2) pa_nil)))))))))), ?_⟩
    have szl : 2000 ≤ sizeLine := by decide
    refine ⟨_, rfl, a, l, rfl, ha, fun e1 => ?_, q1⟩
    refine ⟨_, rfl, b, m, rfl, hb, fun e2 => ?_, q2 e1⟩
    obtain ⟨p1, h1⟩ := isP_pol e1
    obtain ⟨p2, h2⟩ := isP_pol e2
    obtain ⟨qT, q⟩ := q e1 e2
    have emp : (l = [] ∨ m = []) → ∀ t, H t = none → Q (.ref t) (upd H t (.tup [])) := fun c t nt => by
      have pl : prodLen l m = 0 := if_pos c
      refine (q (by omega)).2 t [] _ (same_upd nt) upd_same (.inl rfl) (fun k => ?_) pl.symm
      rw [show co [] k = 0 from co_ge (Nat.zero_le _)]
      rcases c with rfl | rfl
      · rfl
      · rw [conv_zero]
    refine ⟨_, rfl, _, .inr (.inl ⟨_, ha, rfl⟩), ?_⟩
    by_cases cl : l = []
    · subst cl
      exact iteT (iteT ⟨(by show 0 ≤ sizeLine; decide), fun t nt => emp (.inl rfl) t nt⟩)
    have il : (l.map V.int).isEmpty = false := by
      cases l with
      | nil => exact absurd rfl cl
      | cons _ _ => rfl
    rw [il]
    refine iteF ?_
    refine ⟨_, rfl, _, .inr (.inl ⟨_, hb, rfl⟩), ?_⟩
    by_cases cm : m = []
    · subst cm
      exact iteT ⟨(by show 0 ≤ sizeLine; decide), fun t nt => emp (.inr rfl) t nt⟩
    have im : (m.map V.int).isEmpty = false := by
      cases m with
      | nil => exact absurd rfl cm
      | cons _ _ => rfl
    rw [im]
    refine iteF ?_
    have pl : prodLen l m = l.length + m.length - 1 := if_neg (fun z => z.elim cl cm)
    have n1 := List.length_pos_iff.mpr cl
    have n2 := List.length_pos_iff.mpr cm
    refine ⟨_, rfl, a, _, rfl, .inr ha, _, rfl, b, _, rfl, .inr hb, _, _, rfl, rfl, _, _, rfl, rfl, _, _, rfl, rfl, _, rfl, ?_⟩
    rw [List.length_map, List.length_map]
    have e3 : ((l.length : Nat) : Int) + ((m.length : Nat) : Int) - 1 = ((prodLen l m : Nat) : Int) := by omega
    rw [e3]
    by_cases cT : prodLen l m > 200
    · rw [decide_eq_true (show ((prodLen l m : Nat) : Int) > 200 by omega)]
      exact iteT (qT cT)
    rw [decide_eq_false (show ¬ ((prodLen l m : Nat) : Int) > 200 by omega)]
    refine iteF ?_
    obtain ⟨hm, q⟩ := q (by omega)
    refine ⟨(by show 1 ≤ sizeLine; decide), fun z nz => ?_⟩
    have hz : SqT K (upd H z (.lst [.int 0])) a (l.map V.int) := sqT_same (same_upd nz) ha
    have hz2 : SqT K (upd H z (.lst [.int 0])) b (m.map V.int) := sqT_same (same_upd nz) hb
    refine ⟨_, rfl, a, _, rfl, .inr hz, _, rfl, b, _, rfl, .inr hz2, _, _, rfl, rfl, _, _, rfl, rfl, z, _, _, rfl, rfl, upd_same, ?_⟩
    rw [List.length_map, List.length_map, e3]
    generalize eN : prodLen l m = N at *
    refine ⟨by omega, by omega, by show 1 * _ ≤ sizeLine; omega, fun D nD => ?_⟩
    rw [show ((N : Nat) : Int).toNat = N from rfl, rep0]
    have s1 : Same H (upd (upd H z (.lst [.int 0])) D (.lst ((List.replicate N (0 : Int)).map V.int))) := Same.trans (same_upd nz) (same_upd nD)
    have hD1 : upd (upd H z (.lst [.int 0])) D (.lst ((List.replicate N (0 : Int)).map V.int)) D = some (.lst ((List.replicate N (0 : Int)).map V.int)) := upd_same
    have nD0 : H D = none := by
      by_cases e : D = z
      · rw [e]
        exact nz
      · rwa [upd_ne e] at nD
    revert s1 hD1
    generalize upd (upd H z (.lst [.int 0])) D (.lst ((List.replicate N (0 : Int)).map V.int)) = H1
    intro s1 hD1
    refine ⟨_, rfl, a, _, rfl, sqT_same s1 ha, for_it walk_enumT (fun i σ H' => ∃ v3 v4 v5 v6 ps, σ = [some (.ref a), some (.ref b), some (.ref D), v3, v4, v5, v6] ∧ Same H H' ∧ H' D = some (.lst (ps.map V.int)) ∧ ps.length = N ∧ ∀ k, co ps k = conv l m i k)
      ⟨none, none, none, none, _, rfl, s1, hD1, List.length_replicate, fun k => by rw [co_zeros]; rfl⟩ (fun i σ H' _ ⟨_, _, _, _, _, _, s', _⟩ => sqT_same s' ha) (fun i y σ H2 H3 hi hP hy => ?_) (fun σ H' hP => ?_)⟩
    · obtain ⟨v3, v4, v5, v6, ps, rfl, s2, hD2, lp, hc⟩ := hP
      obtain ⟨p, x, y', rfl, np, rfl, ex, ey⟩ := hy
      obtain rfl : V.int (i : Nat) = x := Option.some.inj ex
      have hi' : i < l.length := by rwa [List.length_map] at hi
      have ey2 : (l.map V.int)[i]? = some (.int (co l i)) := by rw [List.getElem?_map, co_get hi']; rfl
      obtain rfl : V.int (co l i) = y' := Option.some.inj (ey2.symm.trans ey)
      refine ⟨p, _, rfl, .inl (.inl upd_same), rfl, _, _, rfl, _, _, rfl, rfl, ?_⟩
      have s3 : Same H (upd H2 p (.tup [.int (i : Nat), .int (co l i)])) := Same.trans s2 (same_upd np)
      have hD3 : upd H2 p (.tup [.int (i : Nat), .int (co l i)]) D = some (.lst (ps.map V.int)) := by rw [upd_ne (ne_of_none hD2 np)]; exact hD2
      revert s3 hD3
      generalize upd H2 p (.tup [.int (i : Nat), .int (co l i)]) = H3
      intro s3 hD3
      refine ⟨_, rfl, b, _, rfl, sqT_same s3 hb, for_it walk_enumT (fun j σ H' => ∃ v5 v6 ps, σ = [some (.ref a), some (.ref b), some (.ref D), some (.int (i : Nat)), some (.int (co l i)), v5, v6] ∧ Same H H' ∧ H' D = some (.lst (ps.map V.int)) ∧ ps.length = N ∧ ∀ k, co ps k = part l m i j k)
        ⟨v5, v6, ps, rfl, s3, hD3, lp, fun k => by rw [hc, part_0]⟩ (fun i σ H' _ ⟨_, _, _, _, s', _⟩ => sqT_same s' hb) (fun j y σ H4 H5 hj hP hy => ?_) (fun σ H' hP => ?_)⟩
      · obtain ⟨v5, v6, ps, rfl, s4, hD4, lp, hc⟩ := hP
        obtain ⟨p2, x2, y2, rfl, np2, rfl, ex2, ey2⟩ := hy
        obtain rfl : V.int (j : Nat) = x2 := Option.some.inj ex2
        have hj' : j < m.length := by rwa [List.length_map] at hj
        have ey3 : (m.map V.int)[j]? = some (.int (co m j)) := by rw [List.getElem?_map, co_get hj']; rfl
        obtain rfl : V.int (co m j) = y2 := Option.some.inj (ey3.symm.trans ey2)
        refine ⟨p2, _, rfl, .inl (.inl upd_same), rfl, _, _, rfl, _, _, rfl, rfl, ?_⟩
        have s5 : Same H (upd H4 p2 (.tup [.int (j : Nat), .int (co m j)])) := Same.trans s4 (same_upd np2)
        have hD5 : upd H4 p2 (.tup [.int (j : Nat), .int (co m j)]) D = some (.lst (ps.map V.int)) := by rw [upd_ne (ne_of_none hD4 np2)]; exact hD4
        revert s5 hD5
        generalize upd H4 p2 (.tup [.int (j : Nat), .int (co m j)]) = H6
        intro s5 hD5
        have hij : i + j < ps.length := by omega
        have ea : ((i : Nat) : Int) + ((j : Nat) : Int) = ((i + j : Nat) : Int) := by omega
        refine ⟨_, rfl, _, rfl, _, rfl, _, _, rfl, rfl, D, _, _, _, rfl, rfl, .inl (.inl hD5), (by rw [ea]; exact at_co hij), _, rfl, _, rfl, _, _, rfl, rfl, hm _ (co_mem hi') _ (co_mem hj'), _, _, rfl, rfl, ?_⟩
        refine ⟨_, rfl, _, rfl, _, rfl, _, _, rfl, rfl, D, _, _, i + j, rfl, rfl, hD5, (by rw [ea]; exact ixN_nat (by rw [List.length_map]; exact hij)), ?_⟩
        refine ⟨_, _, ps.set (i + j) (co ps (i + j) + co l i * co m j), rfl, Same.mut s5 nD0, by rw [upd_same, map_set], by rw [List.length_set]; exact lp, fun k => ?_⟩
        rw [co_set k hij, part_step]
        by_cases c : k = i + j
        · rw [if_pos c, if_pos c, c, hc]
        · rw [if_neg c, if_neg c, hc]
      · obtain ⟨v5, v6, ps, rfl, s4, hD4, lp, hc⟩ := hP
        exact ⟨_, _, _, _, ps, rfl, s4, hD4, lp, fun k => by rw [hc, List.length_map, part_end]⟩
    · obtain ⟨v3, v4, v5, v6, ps, rfl, s2, hD2, lp, hc⟩ := hP
      refine ⟨_, rfl, D, _, rfl, .inl ⟨.inl (.inl hD2), fun t nt => ?_⟩⟩
      refine q t ps _ (Same.trans s2 (same_upd nt)) upd_same (.inr ?_) (fun k => by rw [hc, List.length_map]) lp
      rw [hc, List.length_map, lp, pl, show l.length + m.length - 1 - 1 = l.length + m.length - 2 by omega, conv_lead cl cm]
      exact Int.mul_ne_zero (p1.resolve_left cl) (p2.resolve_left cm)
end

theorem cut_last {l : List Int} : cutV (l.map V.int) none (some (-1)) = (l.take (l.length - 1)).map V.int := by
  unfold cutV
  rw [HT.sIx_none, List.length_map, List.drop_zero, Nat.sub_zero]
  have e : HT.sIx l.length l.length (some (-1)) = l.length - 1 := by
    show (if (-1 : Int) < 0 then ((-1 : Int) + (l.length : Int)).toNat else min (-1 : Int).toNat l.length) = _
    rw [if_pos (by decide)]
    omega
  rw [e, ← List.map_take]
/-- what lies behind i of the parts, from the end on -/
def hsum (x : Int) (l : List Int) (i : Nat) : List Int := (List.range i).map fun t => ev x (l.drop (l.length - 1 - t))
theorem hsum_len (x : Int) (l : List Int) (i : Nat) : (hsum x l i).length = i := by
  unfold hsum
  rw [List.length_map, List.length_range]
theorem hsum_more (x : Int) (l : List Int) (i : Nat) : hsum x l (i + 1) = hsum x l i ++ [ev x (l.drop (l.length - 1 - i))] := by
  unfold hsum
  rw [List.range_succ, List.map_append]
  rfl
def quo (x : Int) (l : List Int) : List Int := ((hsum x l l.length).take (l.length - 1)).reverse
theorem quo_len (x : Int) (l : List Int) : (quo x l).length = l.length - 1 := by
  unfold quo
  rw [List.length_reverse, List.length_take, hsum_len]
  omega
theorem quo_co (x : Int) (l : List Int) (k : Nat) : co (quo x l) k = ev x (l.drop (k + 1)) := by
  rcases Nat.lt_or_ge k (l.length - 1) with c | c
  · have hl : ((hsum x l l.length).take (l.length - 1)).length = l.length - 1 := by rw [List.length_take, hsum_len]; omega
    unfold co quo
    rw [List.getD_eq_getElem?_getD, List.getElem?_reverse (by omega), hl, List.getElem?_take_of_lt (by omega)]
    unfold hsum
    rw [List.getElem?_map, List.getElem?_range (by omega)]
    show ev x (l.drop (l.length - 1 - (l.length - 1 - 1 - k))) = _
    congr 2
    omega
  · rw [co_ge (by rw [quo_len]; exact c), List.drop_eq_nil_of_le (by omega)]
    rfl
def spSplit (K : PySem.W.Frag) : Sp := fun vs H Q _ => ∃ (a : Addr) (x : Int) (l : List Int), vs = [.ref a, .int x] ∧ (SqL K H a (l.map V.int) ∨ SqT K H a (l.map V.int)) ∧ l.length ≤ 1000 ∧ x.natAbs < 2 ^ 62 ∧
  ∀ t u H', Same H H' → H t = none → H u = none → H' t = some (.tup [.ref u, .int (ev x l)]) → H' u = some (.lst ((quo x l).map V.int)) → Q (.ref t) H'
section
variable {P : Program} {w : World} {K : PySem.W.Frag} {mg : Str → Option Value} {base : Heap}
/-! ### _split_off -/
theorem ok_split_off_ {f : Addr} {fd : FuncData} (F : Fun K "_split_off" "_split_off" s_split_off_ f fd) (z_reversed : mg "reversed" = none) : FnOk P w K mg base CX0 1 f fd ["parts", "x"] (spSplit K) := by
  refine F.ok sc_split_off_ (fun vs H Q E h => ?_) (fun cdv A outer s H vs Q E hr h => ?_)
  · obtain ⟨a, x, l, rfl, _⟩ := h
    rfl
  · obtain ⟨a, x, l, rfl, ha, hl, hx, q⟩ := h
    refine ⟨_, (pss_cons (ps_set (i := 2) sc_split_off_.nd rfl (.inl rfl) (pe_lst pa_nil))
  (pss_cons (ps_set (i := 3) sc_split_off_.nd rfl (.inl rfl) pe_int)
  (pss_cons (ps_for PassesOwn.never rfl (RT.pi_revA rfl z_reversed (pv 0)) (pg_name (i := 4) sc_split_off_.nd rfl (.inl rfl)) (pss_cons (ps_set (i := 3) sc_split_off_.nd rfl (.inl rfl) (pe_op op_add (pe_op op_mul (pv 3) (pv 1)) (pv 4)))
  (pss_one (ps_expr (pe_bm PySem.F.plainAttrs_list PySem.F.slot_list_append PySem.F.type_list_append mt_append (pv 2) (pa_cons (pv 3) pa_nil))))))
  (pss_one (ps_ret (pe_tup (pa_cons (pe_revL (pe_slice sl_list (pv 2) po_none (po_some (pe_un un_neg pe_int)))) (pa_cons (pv 3) pa_nil)))))))), ?_⟩
    have szl : 2000 ≤ sizeLine := by decide
    refine ⟨(by show 0 ≤ sizeLine; decide), fun D nD => ?_⟩
    have s1 : Same H (upd H D (.lst [])) := same_upd nD
    let Pv : Nat → L2.St → Hp → Prop := fun i σ H' => ∃ v4, σ = [some (.ref a), some (.int x), some (.ref D), some (.int (ev x (l.drop (l.length - i)))), v4] ∧ Same H H' ∧ H' D = some (.lst ((hsum x l i).map V.int))
    have p0 : Pv 0 [some (.ref a), some (.int x), some (.ref D), some (.int 0), none] (upd H D (.lst [])) := ⟨none, by rw [Nat.sub_zero, List.drop_length]; rfl, s1, upd_same⟩
    have get : ∀ (i : Nat) (y : V), i < (l.map V.int).length → (l.map V.int)[(l.map V.int).length - 1 - i]? = some y → y = .int (co l (l.length - 1 - i)) := fun i y hi hy => by
      rw [List.length_map] at hi hy
      rw [List.getElem?_map, co_get (by omega)] at hy
      exact (Option.some.inj hy).symm
    have step : ∀ i, i < l.length → ev x (l.drop (l.length - i)) * x + co l (l.length - 1 - i) = ev x (l.drop (l.length - (i + 1))) := fun i hi => by
      rw [show l.length - (i + 1) = l.length - 1 - i by omega, ev_drop x (i := l.length - 1 - i) (by omega), show l.length - 1 - i + 1 = l.length - i by omega, Int.mul_comm, Int.add_comm]
    have turn : ∀ (i : Nat) (y : V) (σ : L2.St) (H1 : Hp), i < (l.map V.int).length → (l.map V.int)[(l.map V.int).length - 1 - i]? = some y → Pv i σ H1 → True := fun _ _ _ _ _ _ _ => trivial
    have cm : ∀ z, CMul z x := fun z => .inr ⟨by omega, by omega⟩
    refine ⟨_, rfl, a, l.map V.int, rfl, ?_⟩
    rcases ha with ha | ha
    · refine .inl ⟨sqL_same s1 ha, ?_⟩
      refine RT.for_Itv Pv p0 (fun i σ H' ⟨_, _, s', _⟩ => sqL_same s' ha) (fun i y σ H' hi hy hP => ?_) (fun σ H' hP => ?_)
      · obtain rfl := get i y hi hy
        obtain ⟨v4, rfl, s2, hD⟩ := hP
        rw [List.length_map] at hi
        refine ⟨_, rfl, _, rfl, _, _, rfl, rfl, cm _, _, rfl, _, _, rfl, rfl, ?_⟩
        dsimp only
        rw [step i hi]
        refine ⟨_, rfl, .inl ⟨rfl, _, .inl (.inl hD)⟩, _, rfl, D, _, _, rfl, rfl, hD, by rw [List.length_map, hsum_len]; omega, ?_⟩
        refine ⟨_, rfl, Same.mut s2 nD, ?_⟩
        rw [upd_same, hsum_more, List.map_append, show l.length - (i + 1) = l.length - 1 - i by omega]
        rfl
      · obtain ⟨v4, rfl, s2, hD⟩ := hP
        rw [List.length_map, Nat.sub_self] at *
        refine ⟨_, rfl, _, rfl, _, rfl, D, _, rfl, .inl (.inl hD), fun p np => ?_⟩
        rw [cut_last, hsum_len]
        refine ⟨p, _, rfl, .inl (.inl upd_same), fun u nu => ?_⟩
        rw [← List.map_reverse]
        refine ⟨_, rfl, (by show 2 ≤ sizeLine; decide), fun t nt => ?_⟩
        have h1 : H' p = none := np
        have s3 : Same H (upd H' p (.lst (((hsum x l l.length).take (l.length - 1)).map V.int))) := Same.trans s2 (same_upd np)
        have s4 : Same H (upd (upd H' p (.lst (((hsum x l l.length).take (l.length - 1)).map V.int))) u (.lst ((quo x l).map V.int))) := Same.trans s3 (same_upd nu)
        have hu : upd (upd H' p (.lst (((hsum x l l.length).take (l.length - 1)).map V.int))) u (.lst ((quo x l).map V.int)) u = some (.lst ((quo x l).map V.int)) := upd_same
        exact q t u _ (Same.trans s4 (same_upd nt)) (none_back s4 nt) (none_back s3 nu) upd_same (by rw [upd_ne (ne_of_none hu nt)]; exact hu)
    · refine .inr ⟨sqT_same s1 ha, ?_⟩
      refine RT.for_ItvT Pv p0 (fun i σ H' ⟨_, _, s', _⟩ => sqT_same s' ha) (fun i y σ H' hi hy hP => ?_) (fun σ H' hP => ?_)
      · obtain rfl := get i y hi hy
        obtain ⟨v4, rfl, s2, hD⟩ := hP
        rw [List.length_map] at hi
        refine ⟨_, rfl, _, rfl, _, _, rfl, rfl, cm _, _, rfl, _, _, rfl, rfl, ?_⟩
        dsimp only
        rw [step i hi]
        refine ⟨_, rfl, .inl ⟨rfl, _, .inl (.inl hD)⟩, _, rfl, D, _, _, rfl, rfl, hD, by rw [List.length_map, hsum_len]; omega, ?_⟩
        refine ⟨_, rfl, Same.mut s2 nD, ?_⟩
        rw [upd_same, hsum_more, List.map_append, show l.length - (i + 1) = l.length - 1 - i by omega]
        rfl
      · obtain ⟨v4, rfl, s2, hD⟩ := hP
        rw [List.length_map, Nat.sub_self] at *
        refine ⟨_, rfl, _, rfl, _, rfl, D, _, rfl, .inl (.inl hD), fun p np => ?_⟩
        rw [cut_last, hsum_len]
        refine ⟨p, _, rfl, .inl (.inl upd_same), fun u nu => ?_⟩
        rw [← List.map_reverse]
        refine ⟨_, rfl, (by show 2 ≤ sizeLine; decide), fun t nt => ?_⟩
        have h1 : H' p = none := np
        have s3 : Same H (upd H' p (.lst (((hsum x l l.length).take (l.length - 1)).map V.int))) := Same.trans s2 (same_upd np)
        have s4 : Same H (upd (upd H' p (.lst (((hsum x l l.length).take (l.length - 1)).map V.int))) u (.lst ((quo x l).map V.int))) := Same.trans s3 (same_upd nu)
        have hu : upd (upd H' p (.lst (((hsum x l l.length).take (l.length - 1)).map V.int))) u (.lst ((quo x l).map V.int)) u = some (.lst ((quo x l).map V.int)) := upd_same
        exact q t u _ (Same.trans s4 (same_upd nt)) (none_back s4 nt) (none_back s3 nu) upd_same (by rw [upd_ne (ne_of_none hu nt)]; exact hu)
end

def spValueAt (K : PySem.W.Frag) (CP : Addr) : Sp := fun vs H Q E => ∃ (a : Addr) (x : Int) (l : List Int), vs = [.ref a, .int x] ∧ SqT K H a (l.map V.int) ∧ (isP l = false → E (.ref CP) none H) ∧ (isP l = true → x.natAbs < 2 ^ 62 ∧ ∀ H', Same H H' → Q (.int (ev x l)) H')
section
variable {P : Program} {w : World} {K : PySem.W.Frag} {mg : Str → Option Value} {base : Heap}
/-! ### value_at -/
theorem ok_value_at {f CP a_check_poly a_split_off_ : Addr} {fd fd_check_poly fd_split_off_ : FuncData} (F : Fun K "value_at" "value_at" s_value_at f fd)
    (G_check_poly : FnOk P w K mg base (L2.CX P w) 2 a_check_poly fd_check_poly ["poly"] (spCheckPoly K CP)) (g_check_poly : mg "check_poly" = some (.ref a_check_poly)) (k_check_poly : PySem.W.keepIn K (.ref a_check_poly) = true) (b_check_poly : Binds K fd_check_poly ["poly"] [])
    (G_split_off_ : FnOk P w K mg base CX0 1 a_split_off_ fd_split_off_ ["parts", "x"] (spSplit K)) (g_split_off_ : mg "_split_off" = some (.ref a_split_off_)) (k_split_off_ : PySem.W.keepIn K (.ref a_split_off_) = true) (b_split_off_ : Binds K fd_split_off_ ["parts", "x"] []) : FnOk P w K mg base (L2.CX P w) 3 f fd ["poly", "x"] (spValueAt K CP) := by
  refine F.okX sc_value_at (fun vs H Q E h => ?_) (fun cdv A outer s H vs Q E hr h => ?_)
  · obtain ⟨a, x, l, rfl, _⟩ := h
    rfl
  · obtain ⟨a, x, l, rfl, ha, q1, q2⟩ := h
    refine ⟨_, (pss_cons (ps_expr (pe_call G_check_poly (hr.mono (by decide)) rfl g_check_poly k_check_poly b_check_poly .nil (passes_call (takes_of rfl rfl rfl rfl) (fun _ _ _ _ h => h)) (pa_cons (pv 0) pa_nil)))
  (pss_cons (ps_asg (pe_call G_split_off_ (hr.mono (by decide)) rfl g_split_off_ k_split_off_ b_split_off_ .nil pass0 (pa_cons (pv 0) (pa_cons (pv 1) pa_nil))) (pg_tup rfl (pgs_cons (pg_name (i := 2) sc_value_at.nd rfl (.inl rfl)) (pgs_cons (pg_name (i := 3) sc_value_at.nd rfl (.inl rfl)) pgs_nil))))
  (pss_one (ps_ret (pv 3))))), ?_⟩
    refine ⟨_, rfl, a, l, rfl, ha, fun e1 => ?_, q1⟩
    obtain ⟨hx, q⟩ := q2 e1
    have h1 := (isP_pol e1).2
    refine ⟨_, rfl, _, rfl, a, x, l, rfl, .inr ha, by omega, hx, fun t u H' s' _ _ ht hu => ?_⟩
    exact ⟨t, _, rfl, .inl (.inl ht), rfl, _, _, rfl, _, _, rfl, rfl, _, rfl, q H' s'⟩
end

def spValue (K : PySem.W.Frag) (CW CP : Addr) : Sp := fun vs H Q E => ∃ (x a : Addr) (p d : Int) (l : List Int), vs = [.ref x, .ref a] ∧ SqT K H x [.int p, .int d] ∧ SqT K H a (l.map V.int) ∧ (isW p d = false → E (.ref CW) none H) ∧ (isW p d = true → isP l = false → E (.ref CP) none H) ∧
  (isW p d = true → isP l = true → ∀ t u v H', IsNum p (ev d l) 1 u v → Same H H' → H' t = some (.tup [.int u, .int v]) → Q (.ref t) H')
theorem bad_1 {p : Int} (hp : p = 0 ∨ p ∈ primes) : ¬ bad p 1 := fun z => by
  rcases z with z | ⟨z1, z2⟩
  · cases z
  · have hp2 := prime_pos (hp.resolve_left (by omega))
    rw [Int.emod_eq_of_lt (by decide) (by omega)] at z2
    cases z2
section
variable {P : Program} {w : World} {K : PySem.W.Frag} {mg : Str → Option Value} {base : Heap}
/-! ### value -/
theorem ok_value {f CW CP CB a_check_world a_number a_value_at : Addr} {fd fd_check_world fd_number fd_value_at : FuncData} {un : Tok} (F : Fun K "value" "value" s_value f fd)
    (G_check_world : FnOk P w K mg base (L2.CX P w) 2 a_check_world fd_check_world ["world"] (spCheckWorld K CW)) (g_check_world : mg "check_world" = some (.ref a_check_world)) (k_check_world : PySem.W.keepIn K (.ref a_check_world) = true) (b_check_world : Binds K fd_check_world ["world"] [])
    (G_number : FnOk P w K mg base (L2.CX P w) 3 a_number fd_number ["world", "a", "b"] (spNumber K CW CB)) (g_number : mg "number" = some (.ref a_number)) (k_number : PySem.W.keepIn K (.ref a_number) = true) (b_number : Binds K fd_number ["world", "a", "b"] [])
    (G_value_at : FnOk P w K mg base (L2.CX P w) 3 a_value_at fd_value_at ["poly", "x"] (spValueAt K CP)) (g_value_at : mg "value_at" = some (.ref a_value_at)) (k_value_at : PySem.W.keepIn K (.ref a_value_at) = true) (b_value_at : Binds K fd_value_at ["poly", "x"] [])
    (b_number2 : Binds K fd_number ["world", "a", "b"] [.int 1 un]) : FnOk P w K mg base (L2.CX P w) 4 f fd ["world", "poly"] (spValue K CW CP) := by
  refine F.okX sc_value (fun vs H Q E h => ?_) (fun cdv A outer s H vs Q E hr h => ?_)
  · obtain ⟨x, a, p, d, l, rfl, _⟩ := h
    rfl
  · obtain ⟨x, a, p, d, l, rfl, hx, ha, q1, q2, q3⟩ := h
    refine ⟨_, (pss_cons (ps_expr (pe_call G_check_world (hr.mono (by decide)) rfl g_check_world k_check_world b_check_world .nil (passes_call (takes_of rfl rfl rfl rfl) (fun _ _ _ _ h => h)) (pa_cons (pv 0) pa_nil)))
  (pss_one (ps_ret (pe_call G_number (hr.mono (by decide)) rfl g_number k_number b_number2 (show Vals [V.int 1] [Value.int 1 un] from .cons ⟨un, rfl⟩ .nil) (passes_call (takes_of rfl rfl rfl rfl) (fun _ _ _ _ h => h)) (pa_cons (pv 0) (pa_cons (pe_call G_value_at (hr.mono (by decide)) rfl g_value_at k_value_at b_value_at .nil (passes_call (takes_of rfl rfl rfl rfl) (fun _ _ _ _ h => h)) (pa_cons (pv 1) (pa_cons (pe_ix ix_tup (pv 0) pe_int (fun _ _ => rfl)) pa_nil))) pa_nil)))))), ?_⟩
    refine ⟨_, rfl, x, p, d, rfl, hx, fun ew => ?_, q1⟩
    obtain ⟨hp, hd⟩ := isW_cases ew
    refine ⟨_, rfl, _, rfl, _, rfl, x, _, 1, .int d, rfl, rfl, hx, atI_nat (j := 1) rfl, a, d, l, rfl, ha, q2 ew, fun e1 => ⟨by omega, fun H' s' => ?_⟩⟩
    exact ⟨x, p, d, ev d l, 1, rfl, sqT_same s' hx, .inl (by decide), fun z => (by rw [ew] at z; exact nomatch z), fun _ z => absurd z (bad_1 hp), fun _ _ t u v hn nt => q3 ew e1 t u v _ hn (Same.trans s' (same_upd nt)) upd_same⟩
end

def spCut (K : PySem.W.Frag) : Sp := fun vs H Q _ => ∃ (a : Addr) (l : List Int), vs = [.ref a] ∧ SqL K H a (l.map V.int) ∧ l.length ≤ 10000 ∧ ∀ t zs H', Same H H' → H t = none → H' t = some (.tup (zs.map V.int)) → Tr l zs → Q (.ref t) H'
section
variable {P : Program} {w : World} {K : PySem.W.Frag} {mg : Str → Option Value} {base : Heap}
/-! ### _law_cut -/
theorem ok_law_cut {f : Addr} {fd : FuncData} (F : Fun K "_law_cut" "_law_cut" s_law_cut f fd) (z_len : mg "len" = none) (z_tuple : mg "tuple" = none) (z_range : mg "range" = none) : FnOk P w K mg base CX0 1 f fd ["parts"] (spCut K) := by
  refine F.ok sc_law_cut (fun vs H Q E h => ?_) (fun cdv A outer s H vs Q E hr h => ?_)
  · obtain ⟨a, l, rfl, _⟩ := h
    rfl
  · obtain ⟨a, l, rfl, ha, hl, q⟩ := h
    refine ⟨_, (pss_cons (ps_set (i := 1) sc_law_cut.nd rfl (.inl rfl) (pe_callB call_len_seq (by rfl) z_len boot_len (pa_cons (pv 0) pa_nil)))
  (pss_cons (ps_for PassesOwn.never rfl (pi_range1 rfl z_range (pa_cons (pe_callB call_len_seq (by rfl) z_len boot_len (pa_cons (pv 0) pa_nil)) pa_nil)) (pg_name (i := 2) sc_law_cut.nd rfl (.inl rfl)) (pss_one (ps_if (L2.PW.pt (pw_and (pt_cmpR op_gt (pv 1) pe_int (nomark _)) (pw_and1 (pt_cmpR op_eq (pe_ix ix_list (pv 0) (pe_op op_sub (pv 1) pe_int) (fun _ _ => rfl)) pe_int (nomark _))))) (pss_one (ps_set (i := 1) sc_law_cut.nd rfl (.inl rfl) (pe_op op_sub (pv 1) pe_int))) pss_nil)))
  (pss_one (ps_ret (pe_callTy call_tuple_of (by rfl) z_tuple boot_tuple (pa_cons (pe_slice sl_list (pv 0) po_none (po_some (pv 1))) pa_nil)))))), ?_⟩
    refine ⟨_, rfl, a, _, rfl, .inl ha, ?_⟩
    refine ⟨_, rfl, a, _, rfl, .inl ha, ?_⟩
    rw [List.length_map]
    refine ⟨_, rfl, by omega, by omega, for_range (lo := 0) (n := l.length) (fun i σ H' => H' = H ∧ ∃ (m : Nat) (v2 : Option V), σ = [some (.ref a), some (.int (m : Int)), v2] ∧ Zs l m ∧ ((m = 0 ∨ co l (m - 1) ≠ 0) ∨ m + i ≤ l.length))
      ⟨rfl, l.length, none, rfl, zs_all l, .inr (Nat.le_refl _)⟩ (fun i σ H' hi hP => ?_) (fun σ H' hP => ?_)⟩
    · obtain ⟨rfl, m, v2, rfl, hz, hd⟩ := hP
      refine ⟨_, rfl, _, _, rfl, rfl, _, rfl, ?_⟩
      by_cases c : 0 < m
      · rw [decide_eq_true (show ((m : Nat) : Int) > 0 by omega)]
        refine iteT ?_
        have es : ((m : Nat) : Int) - 1 = ((m - 1 : Nat) : Int) := by omega
        refine ⟨_, rfl, _, rfl, _, _, rfl, rfl, a, _, _, _, rfl, rfl, ha, (by rw [es]; exact at_co (show m - 1 < l.length by have := hz.1; omega)), rfl, _, rfl, ?_⟩
        by_cases c0 : co l (m - 1) = 0
        · rw [decide_eq_true (congrArg V.int c0)]
          refine iteT ⟨_, rfl, _, _, rfl, rfl, rfl, m - 1, _, (by rw [← es]; rfl), zs_less hz c c0, .inr ?_⟩
          rcases hd with (hd | hd) | hd
          · omega
          · exact absurd c0 hd
          · omega
        · rw [decide_eq_false (fun z => c0 (V.int.inj z))]
          exact iteF ⟨rfl, m, _, rfl, hz, .inl (.inr c0)⟩
      · rw [decide_eq_false (show ¬ ((m : Nat) : Int) > 0 by omega)]
        exact iteF (iteF ⟨rfl, m, _, rfl, hz, .inl (.inl (by omega))⟩)
    · obtain ⟨rfl, m, v2, rfl, hz, hd⟩ := hP
      have h0 : m = 0 ∨ co l (m - 1) ≠ 0 := hd.elim id (fun z => .inl (by omega))
      refine ⟨_, rfl, _, rfl, _, rfl, a, _, rfl, ha, fun p np => ⟨p, _, rfl, .inl ⟨.inl (.inl upd_same), fun t nt => ?_⟩⟩⟩
      refine q t (l.take m) _ (Same.trans (same_upd np) (same_upd nt)) (none_back (same_upd np) nt) ?_ (tr_of hz h0)
      rw [upd_same, cut_to hz.1]
end

def SmP (l : List Int) : Prop := ∀ k, (co l k).natAbs ≤ 5
def spLawPoly (K : PySem.W.Frag) : Sp := fun vs H Q _ => ∃ (r : Addr) (ds : List Int) (most : Nat), vs = [.ref r, .int most] ∧ most ≤ 1000 ∧ H r = some (.lst (ds.map V.int)) ∧
  ∀ (t : Addr) (zs ds' : List Int) (H' : Hp), SameBut r H H' → H' r = some (.lst (ds'.map V.int)) → H t = none → H' t = some (.tup (zs.map V.int)) → Pol zs → SmP zs → zs.length ≤ most → Q (.ref t) H'
section
variable {P : Program} {w : World} {K : PySem.W.Frag} {mg : Str → Option Value} {base : Heap}
/-! ### _law_poly -/
theorem ok_law_poly {f a_law_next a_law_cut : Addr} {fd fd_law_next fd_law_cut : FuncData} (F : Fun K "_law_poly" "_law_poly" s_law_poly f fd) (z_int : mg "int" = none) (z_range : mg "range" = none)
    (G_law_next : FnOk P w K mg base CX0 1 a_law_next fd_law_next ["draws"] spNext) (g_law_next : mg "_law_next" = some (.ref a_law_next)) (k_law_next : PySem.W.keepIn K (.ref a_law_next) = true) (b_law_next : Binds K fd_law_next ["draws"] [])
    (G_law_cut : FnOk P w K mg base CX0 1 a_law_cut fd_law_cut ["parts"] (spCut K)) (g_law_cut : mg "_law_cut" = some (.ref a_law_cut)) (k_law_cut : PySem.W.keepIn K (.ref a_law_cut) = true) (b_law_cut : Binds K fd_law_cut ["parts"] []) : FnOk P w K mg base CX0 2 f fd ["draws", "most"] (spLawPoly K) := by
  refine F.ok sc_law_poly (fun vs H Q E h => ?_) (fun cdv A outer s H vs Q E hr h => ?_)
  · obtain ⟨r, ds, most, rfl, _⟩ := h
    rfl
  · obtain ⟨r, ds, most, rfl, hm, hL, q⟩ := h
    refine ⟨_, (pss_one (ps_ret (pe_call G_law_cut (hr.mono (by decide)) rfl g_law_cut k_law_cut b_law_cut .nil pass0 (pa_cons (pe_lc (own := [("j", 2)]) rfl sc_law_poly.nd (pi_range1 rfl z_range (pa_cons (pe_op op_mod (pe_callTy call_int1 (by rfl) z_int boot_int (pa_cons (pe_call G_law_next (hr.mono (by decide)) rfl g_law_next k_law_next b_law_next .nil pass0 (pa_cons (pv 0) pa_nil)) pa_nil)) (pe_op op_add (pv 1) pe_int)) pa_nil)) (blkOk_by (N := ["draws", "most", "j"]) (sc := defScope s_law_poly) (by first | decide +kernel | rfl)) (fun _ _ _ _ _ => (pg_name (i := 2) sc_law_poly.nd rfl (.inl rfl))) (fun _ _ _ _ _ => pts_nil) (fun _ _ _ _ _ => (pe_op op_sub (pe_op op_mod (pe_callTy call_int1 (by rfl) z_int boot_int (pa_cons (pe_call G_law_next (hr.mono (by decide)) rfl g_law_next k_law_next b_law_next .nil pass0 (pa_cons (pv 0) pa_nil)) pa_nil)) pe_int) pe_int))) pa_nil)))), ?_⟩
    have szl : 2000 ≤ sizeLine := by decide
    refine ⟨_, rfl, r, ds, rfl, hL, fun n0 ds0 => .inl ⟨n0, rfl, _, rfl, _, _, rfl, rfl, n0, _, rfl, rfl, by omega, ?_⟩⟩
    obtain ⟨N, hN, eN⟩ : ∃ N : Nat, N ≤ most ∧ n0 % ((most : Int) + 1) = (N : Int) := by
      have m := mod_lt8 n0 (show (0 : Int) < (most : Int) + 1 by omega)
      exact ⟨(n0 % ((most : Int) + 1)).toNat, by omega, by omega⟩
    refine ⟨(N : Int), congrArg (fun z => [V.int z]) eN, by omega, by omega, fun D nD => ?_⟩
    have hrD : r ≠ D := ne_of_none upd_same nD
    have nD0 : H D = none := by rwa [upd_ne (Ne.symm hrD)] at nD
    refine lc_range (lo := 0) (n := N) (fun i H' => ∃ (ds' cs : List Int), SameBut r H H' ∧ H' r = some (.lst (ds'.map V.int)) ∧ H' D = some (.lst (cs.map V.int)) ∧ cs.length = i ∧ SmP cs)
      ⟨ds0, [], SameBut.upd.trans (SameBut.new nD), by rw [upd_ne hrD, upd_same], upd_same, rfl, fun k => by rw [co_ge (Nat.zero_le _)]; decide⟩ (fun i H' hi hP => ?_) (fun H' hP => ?_)
    · obtain ⟨ds', cs, sb, hr', hD, lc, sm⟩ := hP
      refine ⟨rfl, ?_⟩
      refine ⟨_, rfl, r, ds', rfl, hr', fun n1 ds1 => .inl ⟨n1, rfl, n1, 11, rfl, rfl, (show (0 : Int) < 11 by decide), _, 5, rfl, rfl, ?_⟩⟩
      have m1 := mod_lt8 n1 (show (0 : Int) < 11 by decide)
      refine ⟨cs.map V.int, by rw [upd_ne (Ne.symm hrD)]; exact hD, by rw [List.length_map]; omega, ds1, cs ++ [n1 % 11 - 5], ?_, by rw [upd_ne hrD, upd_same], by rw [upd_same, List.map_append]; rfl, by rw [List.length_append, lc]; rfl, fun k => ?_⟩
      · intro b o nb hb
        rw [upd_ne (ne_of_none hb nD0), upd_ne nb]
        exact sb b o nb hb
      · rcases Nat.lt_or_ge k cs.length with c | c
        · have : co (cs ++ [n1 % 11 - 5]) k = co cs k := by
            unfold co
            rw [List.getD_eq_getElem?_getD, List.getD_eq_getElem?_getD, List.getElem?_append_left c]
          rw [this]
          exact sm k
        · by_cases c2 : k = cs.length
          · have : co (cs ++ [n1 % 11 - 5]) k = n1 % 11 - 5 := by
              unfold co
              rw [List.getD_eq_getElem?_getD, List.getElem?_append_right c, c2, Nat.sub_self]
              rfl
            rw [this]
            omega
          · rw [co_ge (by rw [List.length_append]; show cs.length + 1 ≤ k; omega)]
            decide
    · obtain ⟨ds', cs, sb, hr', hD, lc, sm⟩ := hP
      refine ⟨D, cs, rfl, .inl (.inl hD), by omega, fun t zs H2 s2 nt ht tr => ?_⟩
      refine q t zs ds' H2 (fun b o nb hb => s2 _ _ (sb b o nb hb)) (s2 _ _ hr') ?_ ht tr.pol (fun k => by rw [tr.co]; exact sm k) (by have := tr.len; omega)
      have nrt : t ≠ r := fun z => by
        rw [z, hr'] at nt
        exact nomatch nt
      cases e : H t with
      | none => rfl
      | some o =>
        rw [sb _ _ nrt e] at nt
        exact nomatch nt
end

def spLawValue (K : PySem.W.Frag) : Sp := fun vs H Q _ => ∃ (a : Addr) (x : Int) (l : List Int), vs = [.ref a, .int x] ∧ SqT K H a (l.map V.int) ∧ (∀ y ∈ l, y.natAbs < 2 ^ 62) ∧ x.natAbs < 2 ^ 62 ∧ Q (.int (ev x l)) H
section
variable {P : Program} {w : World} {K : PySem.W.Frag} {mg : Str → Option Value} {base : Heap}
/-! ### _law_value -/
theorem ok_law_value {f : Addr} {fd : FuncData} (F : Fun K "_law_value" "_law_value" s_law_value f fd) : FnOk P w K mg base CX0 1 f fd ["poly", "x"] (spLawValue K) := by
  refine F.ok sc_law_value (fun vs H Q E h => ?_) (fun cdv A outer s H vs Q E hr h => ?_)
  · obtain ⟨a, x, l, rfl, _⟩ := h
    rfl
  · obtain ⟨a, x, l, rfl, ha, hs, hx, q⟩ := h
    refine ⟨_, (pss_cons (ps_set (i := 2) sc_law_value.nd rfl (.inl rfl) pe_int)
  (pss_cons (ps_set (i := 3) sc_law_value.nd rfl (.inl rfl) pe_int)
  (pss_cons (ps_for PassesOwn.never rfl (pi_tup (pv 0)) (pg_name (i := 4) sc_law_value.nd rfl (.inl rfl)) (pss_cons (ps_set (i := 2) sc_law_value.nd rfl (.inl rfl) (pe_op op_add (pv 2) (pe_op op_mul (pv 4) (pv 3))))
  (pss_one (ps_set (i := 3) sc_law_value.nd rfl (.inl rfl) (pe_op op_mul (pv 3) (pv 1))))))
  (pss_one (ps_ret (pv 2)))))), ?_⟩
    refine ⟨_, rfl, a, rfl, ⟨_, ha⟩, for_it walk_tup (fun i σ H' => H' = H ∧ ∃ v4 : Option V, σ = [some (.ref a), some (.int x), some (.int (ev x (l.take i))), some (.int (x ^ i)), v4])
      ⟨rfl, none, by rw [Int.pow_zero]; rfl⟩ (fun i σ H' _ h => by rw [h.1]; exact ha) (fun i y σ H1 H2 hi hP hy => ?_) (fun σ H' hP => ?_)⟩
    · obtain ⟨rfl, v4, rfl⟩ := hP
      obtain ⟨rfl, hy⟩ := hy
      rw [List.length_map] at hi
      have ey : (l.map V.int)[i]? = some (.int (co l i)) := by rw [List.getElem?_map, co_get hi]; rfl
      obtain rfl : V.int (co l i) = y := Option.some.inj (ey.symm.trans hy)
      have := hs _ (co_mem hi)
      refine ⟨_, rfl, _, rfl, _, rfl, _, _, rfl, rfl, .inl ⟨by omega, by omega⟩, _, _, rfl, rfl, ?_⟩
      refine ⟨_, rfl, _, rfl, _, _, rfl, rfl, .inr ⟨by omega, by omega⟩, rfl, some (.int (co l i)), ?_⟩
      rw [ev_take x hi, Int.pow_succ]
      rfl
    · obtain ⟨rfl, v4, rfl⟩ := hP
      rw [List.length_map, List.take_length]
      exact ⟨_, rfl, q⟩
end

def spLawTimes (K : PySem.W.Frag) : Sp := fun vs H Q _ => ∃ (a b : Addr) (l m : List Int), vs = [.ref a, .ref b] ∧ SqT K H a (l.map V.int) ∧ SqT K H b (m.map V.int) ∧ (∀ x ∈ l, ∀ y ∈ m, CMul x y) ∧ l.length ≤ 1000 ∧ m.length ≤ 1000 ∧
  ∀ t zs H', Same H H' → H t = none → H' t = some (.tup (zs.map V.int)) → Pol zs → (∀ k, co zs k = conv l m l.length k) → zs.length ≤ l.length + m.length → Q (.ref t) H'
section
variable {P : Program} {w : World} {K : PySem.W.Frag} {mg : Str → Option Value} {base : Heap}
/-! ### _law_times -/
theorem ok_law_times {f a_law_cut : Addr} {fd fd_law_cut : FuncData} (F : Fun K "_law_times" "_law_times" s_law_times f fd) (z_len : mg "len" = none) (z_range : mg "range" = none)
    (G_law_cut : FnOk P w K mg base CX0 1 a_law_cut fd_law_cut ["parts"] (spCut K)) (g_law_cut : mg "_law_cut" = some (.ref a_law_cut)) (k_law_cut : PySem.W.keepIn K (.ref a_law_cut) = true) (b_law_cut : Binds K fd_law_cut ["parts"] []) : FnOk P w K mg base CX0 2 f fd ["one", "other"] (spLawTimes K) := by
  refine F.ok sc_law_times (fun vs H Q E h => ?_) (fun cdv A outer s H vs Q E hr h => ?_)
  · obtain ⟨a, b, l, m, rfl, _⟩ := h
    rfl
  · obtain ⟨a, b, l, m, rfl, ha, hb, hm, ll, lm, q⟩ := h
    refine ⟨_, (pss_cons (ps_set (i := 2) sc_law_times.nd rfl (.inl rfl) (pe_op op_rep (pe_lst (pa_cons pe_int pa_nil)) (pe_op op_add (pe_callB call_len_seq (by rfl) z_len boot_len (pa_cons (pv 0) pa_nil)) (pe_callB call_len_seq (by rfl) z_len boot_len (pa_cons (pv 1) pa_nil)))))
  (pss_cons (ps_for PassesOwn.never rfl (pi_range1 rfl z_range (pa_cons (pe_callB call_len_seq (by rfl) z_len boot_len (pa_cons (pv 0) pa_nil)) pa_nil)) (pg_name (i := 3) sc_law_times.nd rfl (.inl rfl)) (pss_one (ps_for PassesOwn.never rfl (pi_range1 rfl z_range (pa_cons (pe_callB call_len_seq (by rfl) z_len boot_len (pa_cons (pv 1) pa_nil)) pa_nil)) (pg_name (i := 4) sc_law_times.nd rfl (.inl rfl)) (pss_one (ps_asg (pe_op op_add (pe_ix ix_list (pv 2) (pe_op op_add (pv 3) (pv 4)) (fun _ _ => rfl)) (pe_op op_mul (pe_ix ix_tup (pv 0) (pv 3) (fun _ _ => rfl)) (pe_ix ix_tup (pv 1) (pv 4) (fun _ _ => rfl)))) (pg_sub (pv 2) (pe_op op_add (pv 3) (pv 4)) set_list))))))
  (pss_one (ps_ret (pe_call G_law_cut (hr.mono (by decide)) rfl g_law_cut k_law_cut b_law_cut .nil pass0 (pa_cons (pv 2) pa_nil)))))), ?_⟩
    have szl : 3000 ≤ sizeLine := by decide
    refine ⟨(by show 1 ≤ sizeLine; decide), fun z nz => ?_⟩
    have hz : SqT K (upd H z (.lst [.int 0])) a (l.map V.int) := sqT_same (same_upd nz) ha
    have hz2 : SqT K (upd H z (.lst [.int 0])) b (m.map V.int) := sqT_same (same_upd nz) hb
    refine ⟨_, rfl, a, _, rfl, .inr hz, _, rfl, b, _, rfl, .inr hz2, _, _, rfl, rfl, z, _, _, rfl, rfl, upd_same, ?_⟩
    rw [List.length_map, List.length_map, show ((l.length : Nat) : Int) + ((m.length : Nat) : Int) = ((l.length + m.length : Nat) : Int) by omega]
    refine ⟨by omega, by omega, by show 1 * _ ≤ sizeLine; omega, fun D nD => ?_⟩
    rw [show ((l.length + m.length : Nat) : Int).toNat = l.length + m.length from rfl, rep0]
    have s1 : Same H (upd (upd H z (.lst [.int 0])) D (.lst ((List.replicate (l.length + m.length) (0 : Int)).map V.int))) := Same.trans (same_upd nz) (same_upd nD)
    have hD1 : upd (upd H z (.lst [.int 0])) D (.lst ((List.replicate (l.length + m.length) (0 : Int)).map V.int)) D = some (.lst ((List.replicate (l.length + m.length) (0 : Int)).map V.int)) := upd_same
    have nD0 := none_back (same_upd nz) nD
    revert s1 hD1
    generalize upd (upd H z (.lst [.int 0])) D (.lst ((List.replicate (l.length + m.length) (0 : Int)).map V.int)) = H1
    intro s1 hD1
    refine ⟨_, rfl, a, _, rfl, .inr (sqT_same s1 ha), ?_⟩
    rw [List.length_map]
    refine ⟨_, rfl, by omega, by omega, for_range (lo := 0) (n := l.length) (fun i σ H' => ∃ (v3 v4 : Option V) (ps : List Int), σ = [some (.ref a), some (.ref b), some (.ref D), v3, v4] ∧ Same H H' ∧ H' D = some (.lst (ps.map V.int)) ∧ ps.length = l.length + m.length ∧ ∀ k, co ps k = conv l m i k)
      ⟨none, none, _, rfl, s1, hD1, List.length_replicate, fun k => by rw [co_zeros]; rfl⟩ (fun i σ H' hi hP => ?_) (fun σ H' hP => ?_)⟩
    · obtain ⟨v3, v4, ps, rfl, s2, hD2, lp, hc⟩ := hP
      refine ⟨_, rfl, b, _, rfl, .inr (sqT_same s2 hb), ?_⟩
      rw [List.length_map]
      refine ⟨_, rfl, by omega, by omega, for_range (lo := 0) (n := m.length) (fun j σ H' => ∃ (v4 : Option V) (ps : List Int), σ = [some (.ref a), some (.ref b), some (.ref D), some (.int (0 + (i : Int))), v4] ∧ Same H H' ∧ H' D = some (.lst (ps.map V.int)) ∧ ps.length = l.length + m.length ∧ ∀ k, co ps k = part l m i j k)
        ⟨v4, ps, rfl, s2, hD2, lp, fun k => by rw [hc, part_0]⟩ (fun j σ H' hj hP => ?_) (fun σ H' hP => ?_)⟩
      · obtain ⟨v4, ps, rfl, s4, hD4, lp, hc⟩ := hP
        have hij : i + j < ps.length := by omega
        have ea : (0 : Int) + (i : Int) + (0 + (j : Int)) = ((i + j : Nat) : Int) := by omega
        have ei : (0 : Int) + (i : Int) = ((i : Nat) : Int) := by omega
        have ej : (0 : Int) + (j : Int) = ((j : Nat) : Int) := by omega
        refine ⟨_, rfl, _, rfl, _, rfl, _, _, rfl, rfl, D, _, _, _, rfl, rfl, .inl (.inl hD4), (by rw [ea]; exact at_co hij), _, rfl, _, rfl, a, _, _, _, rfl, rfl, sqT_same s4 ha, (by rw [ei]; exact at_co hi),
          _, rfl, _, rfl, b, _, _, _, rfl, rfl, sqT_same s4 hb, (by rw [ej]; exact at_co hj), _, _, rfl, rfl, hm _ (co_mem hi) _ (co_mem hj), _, _, rfl, rfl, ?_⟩
        refine ⟨_, rfl, _, rfl, _, rfl, _, _, rfl, rfl, D, _, _, i + j, rfl, rfl, hD4, (by rw [ea]; exact ixN_nat (by rw [List.length_map]; exact hij)), ?_⟩
        refine ⟨_, ps.set (i + j) (co ps (i + j) + co l i * co m j), rfl, Same.mut s4 nD0, by rw [upd_same, map_set], by rw [List.length_set]; exact lp, fun k => ?_⟩
        rw [co_set k hij, part_step]
        by_cases c : k = i + j
        · rw [if_pos c, if_pos c, c, hc]
        · rw [if_neg c, if_neg c, hc]
      · obtain ⟨v4, ps, rfl, s4, hD4, lp, hc⟩ := hP
        exact ⟨_, _, ps, rfl, s4, hD4, lp, fun k => by rw [hc, part_end]⟩
    · obtain ⟨v3, v4, ps, rfl, s2, hD2, lp, hc⟩ := hP
      refine ⟨_, rfl, D, ps, rfl, .inl (.inl hD2), by omega, fun t zs H2 s3 nt ht tr => q t zs H2 (Same.trans s2 s3) (none_back s2 nt) ht tr.pol (fun k => by rw [tr.co, hc]) (by have := tr.len; omega)⟩
end

def spLawPlus (K : PySem.W.Frag) : Sp := fun vs H Q _ => ∃ (a b : Addr) (l m : List Int), vs = [.ref a, .ref b] ∧ SqT K H a (l.map V.int) ∧ SqT K H b (m.map V.int) ∧ l.length ≤ 1000 ∧ m.length ≤ 1000 ∧
  ∀ t zs H', Same H H' → H t = none → H' t = some (.tup (zs.map V.int)) → Pol zs → (∀ k, co zs k = co l k + co m k) → zs.length ≤ max l.length m.length → Q (.ref t) H'
section
variable {P : Program} {w : World} {K : PySem.W.Frag} {mg : Str → Option Value} {base : Heap}
/-! ### _law_plus -/
theorem ok_law_plus {f a_law_cut : Addr} {fd fd_law_cut : FuncData} (F : Fun K "_law_plus" "_law_plus" s_law_plus f fd) (z_len : mg "len" = none) (z_max : mg "max" = none) (z_range : mg "range" = none)
    (G_law_cut : FnOk P w K mg base CX0 1 a_law_cut fd_law_cut ["parts"] (spCut K)) (g_law_cut : mg "_law_cut" = some (.ref a_law_cut)) (k_law_cut : PySem.W.keepIn K (.ref a_law_cut) = true) (b_law_cut : Binds K fd_law_cut ["parts"] []) : FnOk P w K mg base CX0 2 f fd ["one", "other"] (spLawPlus K) := by
  refine F.ok sc_law_plus (fun vs H Q E h => ?_) (fun cdv A outer s H vs Q E hr h => ?_)
  · obtain ⟨a, b, l, m, rfl, _⟩ := h
    rfl
  · obtain ⟨a, b, l, m, rfl, ha, hb, ll, lm, q⟩ := h
    refine ⟨_, (pss_cons (ps_set (i := 2) sc_law_plus.nd rfl (.inl rfl) (pe_op op_rep (pe_lst (pa_cons pe_int pa_nil)) (pe_callB (call_max2 rfl) (by rfl) z_max boot_max (pa_cons (pe_callB call_len_seq (by rfl) z_len boot_len (pa_cons (pv 0) pa_nil)) (pa_cons (pe_callB call_len_seq (by rfl) z_len boot_len (pa_cons (pv 1) pa_nil)) pa_nil)))))
  (pss_cons (ps_for PassesOwn.never rfl (pi_list (pe_lst (pa_cons (pv 0) (pa_cons (pv 1) pa_nil)))) (pg_name (i := 3) sc_law_plus.nd rfl (.inl rfl)) (pss_one (ps_for PassesOwn.never rfl (pi_range1 rfl z_range (pa_cons (pe_callB call_len_seq (by rfl) z_len boot_len (pa_cons (pv 3) pa_nil)) pa_nil)) (pg_name (i := 4) sc_law_plus.nd rfl (.inl rfl)) (pss_one (ps_asg (pe_op op_add (pe_ix ix_list (pv 2) (pv 4) (fun _ _ => rfl)) (pe_ix ix_tup (pv 3) (pv 4) (fun _ _ => rfl))) (pg_sub (pv 2) (pv 4) set_list))))))
  (pss_one (ps_ret (pe_call G_law_cut (hr.mono (by decide)) rfl g_law_cut k_law_cut b_law_cut .nil pass0 (pa_cons (pv 2) pa_nil)))))), ?_⟩
    have szl : 3000 ≤ sizeLine := by decide
    refine ⟨(by show 1 ≤ sizeLine; decide), fun z nz => ?_⟩
    have hz : SqT K (upd H z (.lst [.int 0])) a (l.map V.int) := sqT_same (same_upd nz) ha
    have hz2 : SqT K (upd H z (.lst [.int 0])) b (m.map V.int) := sqT_same (same_upd nz) hb
    refine ⟨_, rfl, a, _, rfl, .inr hz, _, rfl, b, _, rfl, .inr hz2, _, _, rfl, z, _, _, rfl, rfl, upd_same, ?_⟩
    rw [List.length_map, List.length_map]
    have em : (if ((m.length : Nat) : Int) > ((l.length : Nat) : Int) then ((m.length : Nat) : Int) else ((l.length : Nat) : Int)) = ((max l.length m.length : Nat) : Int) := by
      by_cases c : m.length > l.length
      · rw [if_pos (by omega), Nat.max_eq_right (by omega)]
      · rw [if_neg (by omega), Nat.max_eq_left (by omega)]
    rw [em]
    have mx : max l.length m.length ≤ 1000 := Nat.max_le.mpr ⟨ll, lm⟩
    have ml := Nat.le_max_left l.length m.length
    have mr := Nat.le_max_right l.length m.length
    generalize max l.length m.length = N at *
    refine ⟨by omega, by omega, by show 1 * _ ≤ sizeLine; omega, fun D nD => ?_⟩
    rw [show ((N : Nat) : Int).toNat = N from rfl, rep0]
    have s1 : Same H (upd (upd H z (.lst [.int 0])) D (.lst ((List.replicate N (0 : Int)).map V.int))) := Same.trans (same_upd nz) (same_upd nD)
    have hD1 : upd (upd H z (.lst [.int 0])) D (.lst ((List.replicate N (0 : Int)).map V.int)) D = some (.lst ((List.replicate N (0 : Int)).map V.int)) := upd_same
    have nD0 := none_back (same_upd nz) nD
    revert s1 hD1
    generalize upd (upd H z (.lst [.int 0])) D (.lst ((List.replicate N (0 : Int)).map V.int)) = H1
    intro s1 hD1
    refine ⟨_, rfl, _, rfl, (by show 2 ≤ sizeLine; decide), fun g ng => ?_⟩
    have s2 : Same H (upd H1 g (.lst [.ref a, .ref b])) := Same.trans s1 (same_upd ng)
    have hg : upd H1 g (.lst [.ref a, .ref b]) g = some (.lst [.ref a, .ref b]) := upd_same
    have hgD : g ≠ D := Ne.symm (ne_of_none hD1 ng)
    have ng0 := none_back s1 ng
    have hD2 : upd H1 g (.lst [.ref a, .ref b]) D = some (.lst ((List.replicate N (0 : Int)).map V.int)) := by rw [upd_ne (Ne.symm hgD)]; exact hD1
    revert s2 hg hD2
    generalize upd H1 g (.lst [.ref a, .ref b]) = H2
    intro s2 hg hD2
    let base_ : Nat → Nat → Int := fun i k => (if 1 ≤ i then co l k else 0) + (if 2 ≤ i then co m k else 0)
    refine ⟨g, rfl, ⟨_, .inl (.inl hg)⟩, for_list (K := K) (a := g) (xs := [V.ref a, V.ref b]) (fun i σ H' => ∃ (v3 v4 : Option V) (ps : List Int), σ = [some (.ref a), some (.ref b), some (.ref D), v3, v4] ∧ Same H H' ∧ H' g = some (.lst [.ref a, .ref b]) ∧ H' D = some (.lst (ps.map V.int)) ∧ ps.length = N ∧ ∀ k, co ps k = base_ i k)
      ⟨none, none, _, rfl, s2, hg, hD2, List.length_replicate, fun k => by rw [co_zeros]; rfl⟩ (fun i σ H' _ ⟨_, _, _, _, _, h, _⟩ => .inl (.inl h)) ?_ ?_⟩
    · rintro i y σ H' hi ⟨v3, v4, ps, rfl, s3, hg3, hD3, lp, hc⟩
      obtain ⟨c, cl, hy, hcc, hlc, hb2⟩ : ∃ (c : Addr) (cl : List Int), y = .ref c ∧ SqT K H c (cl.map V.int) ∧ cl.length ≤ N ∧ ∀ k, base_ i k + co cl k = base_ (i + 1) k := by
        have hi2 : i < 2 := (List.getElem?_eq_some_iff.mp hi).1
        rcases (show i = 0 ∨ i = 1 by omega) with rfl | rfl
        · exact ⟨a, l, (Option.some.inj hi).symm, ha, ml, fun k => by show (0 : Int) + 0 + co l k = co l k + 0; omega⟩
        · exact ⟨b, m, (Option.some.inj hi).symm, hb, mr, fun k => by show co l k + 0 + co m k = co l k + co m k; omega⟩
      subst hy
      refine ⟨_, rfl, c, _, rfl, .inr (sqT_same s3 hcc), ?_⟩
      rw [List.length_map]
      refine ⟨_, rfl, by omega, by omega, for_range (lo := 0) (n := cl.length) (fun j σ H' => ∃ (v4 : Option V) (ps : List Int), σ = [some (.ref a), some (.ref b), some (.ref D), some (.ref c), v4] ∧ Same H H' ∧ H' g = some (.lst [.ref a, .ref b]) ∧ H' D = some (.lst (ps.map V.int)) ∧ ps.length = N ∧ ∀ k, co ps k = base_ i k + (if k < j then co cl k else 0))
        ⟨v4, ps, rfl, s3, hg3, hD3, lp, fun k => by rw [hc, if_neg (Nat.not_lt_zero _), Int.add_zero]⟩ (fun j σ H' hj hP => ?_) (fun σ H' hP => ?_)⟩
      · obtain ⟨v4, ps, rfl, s4, hg4, hD4, lp, hc⟩ := hP
        have ej : (0 : Int) + (j : Int) = ((j : Nat) : Int) := by omega
        refine ⟨_, rfl, _, rfl, D, _, _, _, rfl, rfl, .inl (.inl hD4), (by rw [ej]; exact at_co (show j < ps.length by omega)), _, rfl, _, rfl, c, _, _, _, rfl, rfl, sqT_same s4 hcc, (by rw [ej]; exact at_co hj), _, _, rfl, rfl, ?_⟩
        refine ⟨_, rfl, _, rfl, D, _, _, j, rfl, rfl, hD4, (by rw [ej]; exact ixN_nat (by rw [List.length_map]; omega)), ?_⟩
        refine ⟨_, ps.set j (co ps j + co cl j), rfl, Same.mut s4 nD0, by rw [upd_ne hgD]; exact hg4, by rw [upd_same, map_set], by rw [List.length_set]; exact lp, fun k => ?_⟩
        rw [co_set k (by omega)]
        by_cases c1 : k = j
        · rw [if_pos c1, hc, if_neg (by omega), if_pos (by omega), c1, Int.add_zero]
        · rw [if_neg c1, hc]
          by_cases c2 : k < j
          · rw [if_pos c2, if_pos (by omega)]
          · rw [if_neg c2, if_neg (by omega)]
      · obtain ⟨v4, ps, rfl, s4, hg4, hD4, lp, hc⟩ := hP
        refine ⟨_, _, ps, rfl, s4, hg4, hD4, lp, fun k => ?_⟩
        rw [hc, ← hb2]
        by_cases c2 : k < cl.length
        · rw [if_pos c2]
        · rw [if_neg c2, co_ge (l := cl) (by omega)]
    · rintro σ H' ⟨v3, v4, ps, rfl, s3, hg3, hD3, lp, hc⟩
      refine ⟨_, rfl, D, ps, rfl, .inl (.inl hD3), by omega, fun t zs H4 s5 nt ht tr => q t zs H4 (Same.trans s3 s5) (none_back s3 nt) ht tr.pol (fun k => by rw [tr.co, hc]; rfl) (by have := tr.len; omega)⟩
end

structure ErrT (K : PySem.W.Frag) (mg : Str → Option Value) (CE CP CW CT : Addr) : Prop where
  ge : mg "WorthError" = some (.ref CE)
  ebc : PySem.W.subIn K (.ref CE) (.type "BaseException") = some true
  ehd : PySem.W.hasDictIn K CE = true
  ety : PySem.W.typeIn K (.ref CE) = some (.type "type")
  g_p : mg "NotPoly" = some (.ref CP)
  x_p : ExcC K CP
  e_p : PySem.W.subIn K (.ref CP) (.ref CE) = some true
  g_w : mg "NotWorld" = some (.ref CW)
  x_w : ExcC K CW
  e_w : PySem.W.subIn K (.ref CW) (.ref CE) = some true
  g_l : mg "TooLarge" = some (.ref CT)
  x_l : ExcC K CT
  e_l : PySem.W.subIn K (.ref CT) (.ref CE) = some true
  k_pp : PySem.W.kitOne K (.ref CP) (.ref CP) = some true
  k_pw : PySem.W.kitOne K (.ref CP) (.ref CW) = some false
  k_pl : PySem.W.kitOne K (.ref CP) (.ref CT) = some false
  k_wp : PySem.W.kitOne K (.ref CW) (.ref CP) = some false
  k_ww : PySem.W.kitOne K (.ref CW) (.ref CW) = some true
  k_wl : PySem.W.kitOne K (.ref CW) (.ref CT) = some false
  k_lp : PySem.W.kitOne K (.ref CT) (.ref CP) = some false
  k_lw : PySem.W.kitOne K (.ref CT) (.ref CW) = some false
  k_ll : PySem.W.kitOne K (.ref CT) (.ref CT) = some true
def rAddStr : R2 := fun x y H Q => ∃ i j, x = .str i ∧ y = .str j ∧ i.length + j.length ≤ sizeLine ∧ Q (.str (i ++ j)) H
def t_suite (K : PySem.W.Frag) (CP CW CT ax : Addr) (cls : Value) (dx : Option Addr) : TS :=
  tSeq (tAsg (tLst (tCons (tCB (rIsE' K cls dx ax) (tCons (tVar 3) (tCons (tC (.ref CP)) tNil))) (tCons (tCB (rIsE' K cls dx ax) (tCons (tVar 3) (tCons (tC (.ref CW)) tNil))) (tCons (tCB (rIsE' K cls dx ax) (tCons (tVar 3) (tCons (tC (.ref CT)) tNil))) tNil)))) (gName 4))
  (tRet (tOp rAddStr (tC (.str "!")) (tOp rIxS (tC (.str "pwl")) (tBM K "list" (rIndex K) (tVar 4) (tCons (tC (.bl true)) tNil)))))
theorem suite_told {K : PySem.W.Frag} {CP CW CT C ax : Addr} {b0 b1 b2 : Bool} {v0 v1 v2 v4 : Option V} {H : Hp} {D : Ends} {j c : Nat} (hC : ExcC K C) (h0 : PySem.W.kitOne K (.ref C) (.ref CP) = some b0) (h1 : PySem.W.kitOne K (.ref C) (.ref CW) = some b1) (h2 : PySem.W.kitOne K (.ref C) (.ref CT) = some b2)
    (hj : [V.bl b0, V.bl b1, V.bl b2][j]? = some (.bl true)) (hno : ∀ (m : Nat) (z' : V), m < j → [V.bl b0, V.bl b1, V.bl b2][m]? = some z' → eqV z' (.bl true) = false) (hc : atI ("pwl" : Str).cps.toList (j : Int) = some c)
    (q : ∀ H', Same H H' → D.rt (.str (("!" : Str) ++ ⟨#[c]⟩)) H') : t_suite K CP CW CT ax (.ref C) none D [v0, v1, v2, some (.ref ax), v4] H := by
  refine ⟨_, rfl, C, rfl, rfl, hC, _, _, b0, rfl, fun _ r => r, h0, _, rfl, C, rfl, rfl, hC, _, _, b1, rfl, fun _ r => r, h1, _, rfl, C, rfl, rfl, hC, _, _, b2, rfl, fun _ r => r, h2, (by show 3 ≤ sizeLine; decide), fun l nl => ?_⟩
  refine ⟨.ref l, rfl, .inl ⟨rfl, _, .inl (.inl upd_same)⟩, l, _, .bl true, j, .bl true, rfl, rfl, .inl (.inl upd_same), rfl, rfl, hj, rfl, hno, ?_⟩
  exact ⟨_, _, c, rfl, rfl, (by show 3 ≤ sizeLine; decide), hc, _, _, rfl, rfl, (by show 2 ≤ sizeLine; decide), q _ (same_upd nl)⟩
theorem suite_p {K : PySem.W.Frag} {mg : Str → Option Value} {CE CP CW CT ax : Addr} {v0 v1 v2 v4 : Option V} {H : Hp} {D : Ends} {Q : VK} (T : ErrT K mg CE CP CW CT) (q : ∀ H2, Same H H2 → Q (.str "!p") H2) (eD : D.rt = Q) : t_suite K CP CW CT ax (.ref CP) none D [v0, v1, v2, some (.ref ax), v4] H :=
  suite_told (j := 0) (c := 112) T.x_p T.k_pp T.k_pw T.k_pl rfl (fun m z' hm hz => by
    exact absurd hm (Nat.not_lt_zero _)) rfl fun H2 s2 => by
    rw [eD]
    exact q _ s2
theorem suite_w {K : PySem.W.Frag} {mg : Str → Option Value} {CE CP CW CT ax : Addr} {v0 v1 v2 v4 : Option V} {H : Hp} {D : Ends} {Q : VK} (T : ErrT K mg CE CP CW CT) (q : ∀ H2, Same H H2 → Q (.str "!w") H2) (eD : D.rt = Q) : t_suite K CP CW CT ax (.ref CW) none D [v0, v1, v2, some (.ref ax), v4] H :=
  suite_told (j := 1) (c := 119) T.x_w T.k_wp T.k_ww T.k_wl rfl (fun m z' hm hz => by
    rcases (show m = 0 by omega) with rfl
    · cases hz
      rfl) rfl fun H2 s2 => by
    rw [eD]
    exact q _ s2
theorem suite_l {K : PySem.W.Frag} {mg : Str → Option Value} {CE CP CW CT ax : Addr} {v0 v1 v2 v4 : Option V} {H : Hp} {D : Ends} {Q : VK} (T : ErrT K mg CE CP CW CT) (q : ∀ H2, Same H H2 → Q (.str "!l") H2) (eD : D.rt = Q) : t_suite K CP CW CT ax (.ref CT) none D [v0, v1, v2, some (.ref ax), v4] H :=
  suite_told (j := 2) (c := 108) T.x_l T.k_lp T.k_lw T.k_ll rfl (fun m z' hm hz => by
    rcases (show m = 0 ∨ m = 1 by omega) with rfl | rfl
    · cases hz
      rfl
    · cases hz
      rfl) rfl fun H2 s2 => by
    rw [eD]
    exact q _ s2

/-- what _law_told tells -/
def Told (way : Int) (l m : List Int) (H : Hp) (v : V) : Prop :=
  (isP l = false ∧ way ≠ 4 ∧ v = .str "!p") ∨ (way = 4 ∧ v = .str "!w") ∨ (isP l = true ∧ (way = 0 ∨ way = 1 ∨ way = 2) ∧ isP m = false ∧ v = .str "!p") ∨ (isP l = true ∧ isP m = true ∧ way = 2 ∧ prodLen l m > 200 ∧ v = .str "!l") ∨
  (isP l = true ∧ isP m = true ∧ (way = 0 ∨ way = 1) ∧ ∃ t zs, v = .ref t ∧ H t = some (.tup (zs.map V.int)) ∧ Pol zs ∧ (∀ k, co zs k = co l k + (if way = 0 then 1 else -1) * co m k) ∧ zs.length ≤ max l.length m.length) ∨
  (isP l = true ∧ isP m = true ∧ way = 2 ∧ prodLen l m ≤ 200 ∧ ∃ t zs, v = .ref t ∧ H t = some (.tup (zs.map V.int)) ∧ Pol zs ∧ (∀ k, co zs k = conv l m l.length k) ∧ zs.length = prodLen l m) ∨
  (isP l = true ∧ way = 3 ∧ v = .int (ev 2 l)) ∨ (isP l = true ∧ way = 5 ∧ v = .non)
section
variable {P : Program} {w : World} {K : PySem.W.Frag} {mg : Str → Option Value} {base : Heap}
def spTold4 (K : PySem.W.Frag) : Sp := fun vs H Q _ => ∃ (way : Int) (a b : Addr) (l m : List Int), vs = [.int way, .ref a, .ref b] ∧ 0 ≤ way ∧ way ≤ 5 ∧ SqT K H a (l.map V.int) ∧ SqT K H b (m.map V.int) ∧ (way = 2 → ∀ x ∈ l, ∀ y ∈ m, CMul x y) ∧ ∀ v H', Same H H' → Told way l m H' v → Q v H'
theorem ok_told4 {f CE CP CW CT a_added a_subtracted a_multiplied_polys a_value_at a_value a_check_poly : Addr} {fd fd_added fd_subtracted fd_multiplied_polys fd_value_at fd_value fd_check_poly : FuncData} (F : Fun K "_law_told" "_law_told" s_law_told f fd) (T : ErrT K mg CE CP CW CT) (z_isinstance : mg "isinstance" = none)
    (G_added : FnOk P w K mg base (L2.CX P w) 3 a_added fd_added ["one", "other"] (spAdd K CP (1))) (g_added : mg "added" = some (.ref a_added)) (k_added : PySem.W.keepIn K (.ref a_added) = true) (b_added : Binds K fd_added ["one", "other"] [])
    (G_subtracted : FnOk P w K mg base (L2.CX P w) 3 a_subtracted fd_subtracted ["one", "other"] (spAdd K CP (-1))) (g_subtracted : mg "subtracted" = some (.ref a_subtracted)) (k_subtracted : PySem.W.keepIn K (.ref a_subtracted) = true) (b_subtracted : Binds K fd_subtracted ["one", "other"] [])
    (G_multiplied_polys : FnOk P w K mg base (L2.CX P w) 3 a_multiplied_polys fd_multiplied_polys ["one", "other"] (spMul K CP CT)) (g_multiplied_polys : mg "multiplied_polys" = some (.ref a_multiplied_polys)) (k_multiplied_polys : PySem.W.keepIn K (.ref a_multiplied_polys) = true) (b_multiplied_polys : Binds K fd_multiplied_polys ["one", "other"] [])
    (G_value_at : FnOk P w K mg base (L2.CX P w) 3 a_value_at fd_value_at ["poly", "x"] (spValueAt K CP)) (g_value_at : mg "value_at" = some (.ref a_value_at)) (k_value_at : PySem.W.keepIn K (.ref a_value_at) = true) (b_value_at : Binds K fd_value_at ["poly", "x"] [])
    (G_value : FnOk P w K mg base (L2.CX P w) 4 a_value fd_value ["world", "poly"] (spValue K CW CP)) (g_value : mg "value" = some (.ref a_value)) (k_value : PySem.W.keepIn K (.ref a_value) = true) (b_value : Binds K fd_value ["world", "poly"] [])
    (G_check_poly : FnOk P w K mg base (L2.CX P w) 2 a_check_poly fd_check_poly ["poly"] (spCheckPoly K CP)) (g_check_poly : mg "check_poly" = some (.ref a_check_poly)) (k_check_poly : PySem.W.keepIn K (.ref a_check_poly) = true) (b_check_poly : Binds K fd_check_poly ["poly"] []) :
    FnOk P w K mg base CX0 5 f fd ["way", "one", "other"] (spTold4 K) := by
  have gc_WorthError := T.ge
  have m_NotPoly := T.g_p
  have m_NotWorld := T.g_w
  have m_TooLarge := T.g_l
  have r_NotPoly : RelV (.ref CP) (.ref CP) := rfl
  have r_NotWorld : RelV (.ref CW) (.ref CW) := rfl
  have r_TooLarge : RelV (.ref CT) (.ref CT) := rfl
  have eP := PySem.W.exm_ref T.ebc T.ehd T.ety T.e_p
  have eW := PySem.W.exm_ref T.ebc T.ehd T.ety T.e_w
  have eT := PySem.W.exm_ref T.ebc T.ehd T.ety T.e_l
  refine F.ok sc_law_told (fun vs H Q E h => ?_) (fun cdv A outer s H vs Q E hr1 h => ?_)
  · obtain ⟨way, a, b, l, m, rfl, _⟩ := h
    rfl
  · obtain ⟨way, a, b, l, m, rfl, w0, w5, ha, hb, hcm, q⟩ := h
    refine ⟨_, (pss_one (ps_try_as (i := 3) (Wout := fun _ _ _ _ => False) rfl rfl sc_law_told.nd rfl rfl ⟨rfl, by decide, .inl gc_WorthError⟩ takes0 (fun W pn xe tk _ => by exact (pss_cons (ps_if (pt_cmpR op_eq (pv 0) pe_int (nomark _)) (pss_one (ps_ret (pe_callS G_added (hr1.mono (by decide)) rfl g_added k_added b_added (fun σ => passAt tk σ) (pa_cons (pv 1) (pa_cons (pv 2) pa_nil))))) pss_nil)
  (pss_cons (ps_if (pt_cmpR op_eq (pv 0) pe_int (nomark _)) (pss_one (ps_ret (pe_callS G_subtracted (hr1.mono (by decide)) rfl g_subtracted k_subtracted b_subtracted (fun σ => passAt tk σ) (pa_cons (pv 1) (pa_cons (pv 2) pa_nil))))) pss_nil)
  (pss_cons (ps_if (pt_cmpR op_eq (pv 0) pe_int (nomark _)) (pss_one (ps_ret (pe_callS G_multiplied_polys (hr1.mono (by decide)) rfl g_multiplied_polys k_multiplied_polys b_multiplied_polys (fun σ => passAt tk σ) (pa_cons (pv 1) (pa_cons (pv 2) pa_nil))))) pss_nil)
  (pss_cons (ps_if (pt_cmpR op_eq (pv 0) pe_int (nomark _)) (pss_one (ps_ret (pe_callS G_value_at (hr1.mono (by decide)) rfl g_value_at k_value_at b_value_at (fun σ => passAt tk σ) (pa_cons (pv 1) (pa_cons pe_int pa_nil))))) pss_nil)
  (pss_cons (ps_if (pt_cmpR op_eq (pv 0) pe_int (nomark _)) (pss_one (ps_ret (pe_callS G_value (hr1.mono (by decide)) rfl g_value k_value b_value (fun σ => passAt tk σ) (pa_cons (pe_tup (pa_cons pe_int (pa_cons pe_int pa_nil))) (pa_cons (pv 1) pa_nil))))) pss_nil)
  (pss_one (ps_ret (pe_callS G_check_poly (hr1.mono (by decide)) rfl g_check_poly k_check_poly b_check_poly (fun σ => passAt tk σ) (pa_cons (pv 1) pa_nil)))))))))) (fun ax oe cls dx pn hz hf => by exact (pss_cons (ps_set (i := 4) sc_law_told.nd rfl (.inl rfl) (pe_lst (pa_cons (pe_callB (call_isE' hz hf) (by rfl) z_isinstance boot_isinstance (pa_cons (pv 3) (pa_cons (pe_glob rfl m_NotPoly r_NotPoly) pa_nil))) (pa_cons (pe_callB (call_isE' hz hf) (by rfl) z_isinstance boot_isinstance (pa_cons (pv 3) (pa_cons (pe_glob rfl m_NotWorld r_NotWorld) pa_nil))) (pa_cons (pe_callB (call_isE' hz hf) (by rfl) z_isinstance boot_isinstance (pa_cons (pv 3) (pa_cons (pe_glob rfl m_TooLarge r_TooLarge) pa_nil))) pa_nil)))))
  (pss_one (ps_ret (pe_op op_add_str pe_str (pe_ix ix_str pe_str (pe_indexK (K := K) rfl (pv 4) (pa_cons pe_bl pa_nil)) (fun _ _ => rfl))))))))), ?_⟩
    refine ⟨_, rfl, rfl, _, rfl, ite2 (fun e => ?_) (fun e => ?_)⟩
    · obtain rfl : way = 0 := V.int.inj (of_decide_eq_true e)
      refine ⟨_, rfl, _, rfl, a, b, l, m, rfl, ha, hb, fun e1 => ?_, fun e1 e2 => ?_, fun e1 e2 t zs H' s' ht hp hc hl => ?_⟩
      · exact ⟨true, eP, fun _ ax _ => suite_p T (fun H2 s2 => q (.str "!p") H2 s2 (.inl ⟨e1, by decide, rfl⟩)) rfl, fun z => nomatch z⟩
      · exact ⟨true, eP, fun _ ax _ => suite_p T (fun H2 s2 => q (.str "!p") H2 s2 (.inr (.inr (.inl ⟨e1, .inl rfl, e2, rfl⟩)))) rfl, fun z => nomatch z⟩
      · exact q (.ref t) H' s' (.inr (.inr (.inr (.inr (.inl ⟨e1, e2, .inl rfl, t, zs, rfl, ht, hp, fun k => by rw [if_pos rfl]; exact hc k, hl⟩)))))
    have n0 : way ≠ 0 := fun z => e (decide_eq_true (congrArg V.int z))
    clear e
    refine ⟨_, rfl, rfl, _, rfl, ite2 (fun e => ?_) (fun e => ?_)⟩
    · obtain rfl : way = 1 := V.int.inj (of_decide_eq_true e)
      refine ⟨_, rfl, _, rfl, a, b, l, m, rfl, ha, hb, fun e1 => ?_, fun e1 e2 => ?_, fun e1 e2 t zs H' s' ht hp hc hl => ?_⟩
      · exact ⟨true, eP, fun _ ax _ => suite_p T (fun H2 s2 => q (.str "!p") H2 s2 (.inl ⟨e1, by decide, rfl⟩)) rfl, fun z => nomatch z⟩
      · exact ⟨true, eP, fun _ ax _ => suite_p T (fun H2 s2 => q (.str "!p") H2 s2 (.inr (.inr (.inl ⟨e1, .inr (.inl rfl), e2, rfl⟩)))) rfl, fun z => nomatch z⟩
      · exact q (.ref t) H' s' (.inr (.inr (.inr (.inr (.inl ⟨e1, e2, .inr rfl, t, zs, rfl, ht, hp, fun k => by rw [if_neg (by decide)]; exact hc k, hl⟩)))))
    have n1 : way ≠ 1 := fun z => e (decide_eq_true (congrArg V.int z))
    clear e
    refine ⟨_, rfl, rfl, _, rfl, ite2 (fun e => ?_) (fun e => ?_)⟩
    · obtain rfl : way = 2 := V.int.inj (of_decide_eq_true e)
      refine ⟨_, rfl, _, rfl, a, b, l, m, rfl, ha, hb, fun e1 => ?_, fun e1 e2 => ?_, fun e1 e2 => ⟨fun c => ?_, fun c => ⟨hcm rfl, fun t zs H' s' ht hp hc hl => ?_⟩⟩⟩
      · exact ⟨true, eP, fun _ ax _ => suite_p T (fun H2 s2 => q (.str "!p") H2 s2 (.inl ⟨e1, by decide, rfl⟩)) rfl, fun z => nomatch z⟩
      · exact ⟨true, eP, fun _ ax _ => suite_p T (fun H2 s2 => q (.str "!p") H2 s2 (.inr (.inr (.inl ⟨e1, .inr (.inr rfl), e2, rfl⟩)))) rfl, fun z => nomatch z⟩
      · exact ⟨true, eT, fun _ ax _ => suite_l T (fun H2 s2 => q (.str "!l") H2 s2 (.inr (.inr (.inr (.inl ⟨e1, e2, rfl, c, rfl⟩))))) rfl, fun z => nomatch z⟩
      · exact q (.ref t) H' s' (.inr (.inr (.inr (.inr (.inr (.inl ⟨e1, e2, rfl, c, t, zs, rfl, ht, hp, hc, hl⟩))))))
    have n2 : way ≠ 2 := fun z => e (decide_eq_true (congrArg V.int z))
    clear e
    refine ⟨_, rfl, rfl, _, rfl, ite2 (fun e => ?_) (fun e => ?_)⟩
    · obtain rfl : way = 3 := V.int.inj (of_decide_eq_true e)
      refine ⟨_, rfl, a, 2, l, rfl, ha, fun e1 => ?_, fun e1 => ⟨by decide, fun H' s' => ?_⟩⟩
      · exact ⟨true, eP, fun _ ax _ => suite_p T (fun H2 s2 => q (.str "!p") H2 s2 (.inl ⟨e1, by decide, rfl⟩)) rfl, fun z => nomatch z⟩
      · exact q _ H' s' (.inr (.inr (.inr (.inr (.inr (.inr (.inl ⟨e1, rfl, rfl⟩)))))))
    have n3 : way ≠ 3 := fun z => e (decide_eq_true (congrArg V.int z))
    clear e
    refine ⟨_, rfl, rfl, _, rfl, ite2 (fun e => ?_) (fun e => ?_)⟩
    · obtain rfl : way = 4 := V.int.inj (of_decide_eq_true e)
      refine ⟨(by show 2 ≤ sizeLine; decide), fun t nt => ?_⟩
      refine ⟨_, rfl, t, a, 4, 1, l, rfl, .inl (.inl upd_same), sqT_same (same_upd nt) ha, fun _ => ?_, fun z => (nomatch (show false = true from z)), fun z => (nomatch (show false = true from z))⟩
      exact ⟨true, eW, fun _ ax _ => suite_w T (fun H2 s2 => q (.str "!w") H2 (Same.trans (same_upd nt) s2) (.inr (.inl ⟨rfl, rfl⟩))) rfl, fun z => nomatch z⟩
    have n4 : way ≠ 4 := fun z => e (decide_eq_true (congrArg V.int z))
    obtain rfl : way = 5 := by omega
    refine ⟨_, rfl, a, l, rfl, ha, fun e1 => ?_, fun e1 => ?_⟩
    · exact q .non H (Same.refl _) (.inr (.inr (.inr (.inr (.inr (.inr (.inr ⟨e1, rfl, rfl⟩)))))))
    · exact ⟨true, eP, fun _ ax _ => suite_p T (fun H2 s2 => q (.str "!p") H2 s2 (.inl ⟨e1, by decide, rfl⟩)) rfl, fun z => nomatch z⟩
end

/-- a tuple of these integers -/
def TP (H : Hp) (v : V) (z : List Int) : Prop := ∃ t, v = .ref t ∧ H t = some (.tup (z.map V.int))
theorem TP.same {H H' : Hp} {v : V} {z : List Int} (s : Same H H') (h : TP H v z) : TP H' v z := by
  obtain ⟨t, rfl, h⟩ := h
  exact ⟨t, rfl, s _ _ h⟩
def dT (z : List Int) : PyData := .tuple (z.map PyData.int)
theorem ints_dp {K : PySem.W.Frag} {H : Hp} : ∀ z : List Int, DpAll K H (z.map V.int) (z.map PyData.int)
  | [] => .nil
  | a :: r => .cons (.int a) (ints_dp r)
theorem TP.dp {K : PySem.W.Frag} {H : Hp} {v : V} {z : List Int} (h : TP H v z) : Dp K H v (dT z) := by
  obtain ⟨t, rfl, h⟩ := h
  exact .tup (.inl (.inl h)) (ints_dp z)
theorem tps_dp {K : PySem.W.Frag} {H : Hp} : ∀ {vs : List V} {zs : List (List Int)}, Paired (TP H) vs zs → DpAll K H vs (zs.map dT)
  | _, _, .nil => .nil
  | _, _, .cons a b => .cons a.dp (tps_dp b)
theorem paired_add {α β : Type} {F : α → β → Prop} {a : α} {b : β} (h : F a b) : ∀ {l : List α} {m : List β}, Paired F l m → Paired F (l ++ [a]) (m ++ [b])
  | _, _, .nil => .cons h .nil
  | _, _, .cons x y => .cons x (paired_add h y)
theorem dT_small {z : List Int} (h : ∀ k, (co z k).natAbs < 2 ^ 200) : SmL 1 (1923 * z.length + 3) (dT z) := by
  have e := smL_tuple (ds := z.map PyData.int) (n := 0) (k := 1921) fun D hD => by
    obtain ⟨a, ha, rfl⟩ := List.mem_map.mp hD
    obtain ⟨i, hi, rfl⟩ := List.mem_iff_getElem.mp ha
    have e1 := co_get hi
    rw [List.getElem?_eq_getElem hi] at e1
    rw [Option.some.inj e1]
    exact smL_int (h i)
  rw [List.length_map] at e
  exact e
theorem SmL.more {n k k' : Nat} {D : PyData} (h : SmL n k D) (hk : k ≤ k') : SmL n k' D := by
  obtain ⟨h1, h2, h3, h4⟩ := h
  exact ⟨h1, h2, h3, Nat.le_trans h4 hk⟩
theorem conv_small {l m : List Int} (hl : SmP l) (hm : SmP m) (k : Nat) : ∀ i, (conv l m i k).natAbs ≤ 25 * i
  | 0 => Nat.zero_le _
  | i + 1 => by
    have ih := conv_small hl hm k i
    have r : (row l m i k).natAbs ≤ 25 := by
      unfold row
      split
      · rw [Int.natAbs_mul]
        exact Nat.mul_le_mul (hl i) (hm (k - i))
      · decide
    show (conv l m i k + row l m i k).natAbs ≤ _
    omega
theorem ev_small {x : Int} (hx : x.natAbs ≤ 31) : ∀ {l : List Int}, (∀ y ∈ l, y.natAbs ≤ 5) → (ev x l).natAbs ≤ 5 * 32 ^ l.length
  | [], _ => Nat.zero_le _
  | a :: r, h => by
    have ih := ev_small hx (l := r) fun y hy => h y (List.mem_cons_of_mem _ hy)
    have ha := h a List.mem_cons_self
    have hm : (x * ev x r).natAbs ≤ 31 * (5 * 32 ^ r.length) := by
      rw [Int.natAbs_mul]
      exact Nat.mul_le_mul hx ih
    have hp : 0 < 32 ^ r.length := Nat.pow_pos (by decide)
    show (a + x * ev x r).natAbs ≤ 5 * 32 ^ (r.length + 1)
    rw [Nat.pow_succ]
    omega
theorem smP_mem {l : List Int} (h : SmP l) : ∀ y ∈ l, y.natAbs ≤ 5 := fun y hy => by
  obtain ⟨i, hi, rfl⟩ := List.mem_iff_getElem.mp hy
  have e1 := co_get hi
  rw [List.getElem?_eq_getElem hi] at e1
  rw [Option.some.inj e1]
  exact h i
theorem cm_small {l m : List Int} (h : ∀ y ∈ l, y.natAbs ≤ 5) : ∀ x ∈ l, ∀ y ∈ m, CMul x y := fun x hx y _ => .inl (by have := h x hx; exact ⟨by omega, by omega⟩)
theorem repT {α : Type} (x : α) : ∀ n : Nat, (List.replicate n [x]).flatten = List.replicate n x
  | 0 => rfl
  | n + 1 => by rw [List.replicate_succ, List.flatten_cons, repT x n, List.replicate_succ]; rfl
theorem told_get {way : Int} {l m z : List Int} {H : Hp} {v : V} (h : Told way l m H v) (e1 : isP l = true) (e2 : isP m = true) (hp : prodLen l m ≤ 200) (pz : Pol z) (hw : (way = 0 ∧ ∀ k, co z k = co l k + co m k) ∨ (way = 1 ∧ ∀ k, co z k = co l k + (0 - co m k)) ∨ (way = 2 ∧ ∀ k, co z k = conv l m l.length k)) : TP H v z := by
  have w3 : way = 0 ∨ way = 1 ∨ way = 2 := by rcases hw with ⟨h, _⟩ | ⟨h, _⟩ | ⟨h, _⟩ <;> omega
  rcases h with ⟨e, _⟩ | ⟨e, _⟩ | ⟨_, _, e, _⟩ | ⟨_, _, _, e, _⟩ | ⟨_, _, e, t, zs, rfl, ht, pzs, hc, _⟩ | ⟨_, _, e, _, t, zs, rfl, ht, pzs, hc, _⟩ | ⟨_, e, _⟩ | ⟨_, e, _⟩
  · rw [e1] at e
    exact nomatch e
  · omega
  · rw [e2] at e
    exact nomatch e
  · omega
  · have : zs = z := pol_ext pzs pz fun k => by
      rw [hc]
      rcases hw with ⟨h, hz⟩ | ⟨h, hz⟩ | ⟨h, hz⟩
      · rw [hz, if_pos h]
        omega
      · rw [hz, if_neg (by omega)]
        omega
      · omega
    rw [← this]
    exact ⟨t, rfl, ht⟩
  · have : zs = z := pol_ext pzs pz fun k => by
      rw [hc]
      rcases hw with ⟨h, hz⟩ | ⟨h, hz⟩ | ⟨h, hz⟩
      · omega
      · omega
      · rw [hz]
    rw [← this]
    exact ⟨t, rfl, ht⟩
  · omega
  · omega
theorem told_bad {way : Int} {l m : List Int} {H : Hp} {v : V} (h : Told way l m H v) (e1 : isP l = false) (hw : way ≠ 4) : v = .str "!p" := by
  have n : isP l = true → False := fun z => by rw [e1] at z; exact nomatch z
  rcases h with ⟨_, _, h⟩ | ⟨e, _⟩ | ⟨e, _⟩ | ⟨e, _⟩ | ⟨e, _⟩ | ⟨e, _⟩ | ⟨e, _⟩ | ⟨e, _⟩
  · exact h
  · exact absurd e hw
  all_goals exact (n e).elim
theorem told_bad2 {way : Int} {l m : List Int} {H : Hp} {v : V} (h : Told way l m H v) (e1 : isP l = true) (e2 : isP m = false) (hw : way = 0 ∨ way = 1 ∨ way = 2) : v = .str "!p" := by
  have n : isP m = true → False := fun z => by rw [e2] at z; exact nomatch z
  rcases h with ⟨e, _⟩ | ⟨e, _⟩ | ⟨_, _, _, h⟩ | ⟨_, e, _⟩ | ⟨_, e, _⟩ | ⟨_, e, _⟩ | ⟨_, e, _⟩ | ⟨_, e, _⟩
  · rw [e1] at e
    exact nomatch e
  · omega
  · exact h
  · exact (n e).elim
  · exact (n e).elim
  · exact (n e).elim
  · omega
  · omega
def rCatB (K : PySem.W.Frag) : R2 := fun x y H Q => ∃ a b xs ys, x = .ref a ∧ y = .ref b ∧ SqT K H a xs ∧ SqT K H b ys ∧ xs.length + ys.length ≤ sizeLine ∧ ∀ p H', Same H H' → SqT K H' p (xs ++ ys) → Q (.ref p) H'
theorem op_catB {X : Cx} : OpR X (binaryOp .Add) (rCatB X.K) := by
  intro pins s σ H x y v u Q I rx ry h
  obtain ⟨a, b, xs, ys, rfl, rfl, ha, hb, hz, q⟩ := h
  refine op_catA pins s σ H _ _ v u Q I rx ry ⟨a, b, xs, ys, rfl, rfl, ha, hb, hz, fun e => ?_, fun _ e => ?_, fun _ _ p np => ?_⟩
  · exact q b H (Same.refl _) (by rw [e, List.nil_append]; exact hb)
  · exact q a H (Same.refl _) (by rw [e, List.append_nil]; exact ha)
  · exact q p _ (same_upd np) (.inl (.inl upd_same))
theorem sqT_butL {K : PySem.W.Frag} {H H' : Hp} {r a : Addr} {xs ys : List V} (hr : H r = some (.lst ys)) (e : SameBut r H H') (h : SqT K H a xs) : SqT K H' a xs := by
  rcases h with (h | ⟨o, h⟩) | h
  · exact .inl (.inl (e _ _ (ne_of h hr (fun z => nomatch z)) h))
  · exact .inl (.inr ⟨o, e _ _ (ne_of h hr (fun z => nomatch z)) h⟩)
  · exact .inr h
theorem isP_app0 {l : List Int} (h : l.length ≤ 100) : isP (l ++ [0]) = false := by
  unfold isP
  rw [if_neg (by rw [List.length_append]; show ¬ ((l.length + 1 : Nat) : Int) > 200; omega), if_neg (by rw [List.length_append]; show ¬ l.length + 1 = 0; omega)]
  have : co (l ++ [0]) ((l ++ [0]).length - 1) = 0 := by
    rw [List.length_append, show l.length + [(0 : Int)].length - 1 = l.length from rfl]
    unfold co
    rw [List.getD_eq_getElem?_getD, List.getElem?_append_right (Nat.le_refl _), Nat.sub_self]
    rfl
  rw [this]
  rfl
theorem isP_201 : isP (List.replicate 201 1) = false := by decide +kernel
theorem isP_200 : isP (List.replicate 200 1) = true := by decide +kernel
theorem isP_0 : isP [0] = false := by decide +kernel
theorem ok_p : PyData.strOk ("!p" : Str) = true := by decide +kernel
theorem rl_p : (reprText ("!p" : Str)).length = 4 := by decide +kernel
theorem smL_p : SmL 1 4000 (.str "!p") := ⟨by simp [PyData.canLay0, ok_p], by simp [PyData.depth], by simp [PyData.showable], by simp only [wt, rl_p]; omega⟩
theorem reps_dp {K : PySem.W.Frag} {H : Hp} : ∀ n : Nat, DpAll K H (List.replicate n (V.str "!p")) (List.replicate n (PyData.str "!p"))
  | 0 => .nil
  | n + 1 => .cons (.str _) (reps_dp n)
theorem eqv_reps : PyData.eqv (.list (List.replicate 5 (.str "!p"))) (.list (List.replicate 5 (.str "!p"))) = true ∧ PyData.eqv (.list (List.replicate 3 (.str "!p"))) (.list (List.replicate 3 (.str "!p"))) = true := by decide +kernel
theorem ne_reps {K : PySem.W.Frag} {H : Hp} {a b : Addr} {n : Nat} {Q : VK} (hn : n = 5 ∨ n = 3) (ha : H a = some (.lst (List.replicate n (V.str "!p")))) (hb : H b = some (.lst (List.replicate n (V.str "!p")))) (q : Q (.bl false) H) : rNeD K (.ref a) (.ref b) H Q := by
  have sm := smL_list (n := 1) (k := 4000) (ds := List.replicate n (PyData.str "!p")) fun D hD => by
    rw [(List.mem_replicate.mp hD).2]
    exact smL_p
  refine ⟨_, _, .lst (.inl (.inl ha)) (reps_dp n), .lst (.inl (.inl hb)) (reps_dp n), sm.shaped (by decide), sm.shaped (by decide), ?_⟩
  have e : PyData.eqv (.list (List.replicate n (.str "!p"))) (.list (List.replicate n (.str "!p"))) = true := by
    rcases hn with rfl | rfl
    · exact eqv_reps.1
    · exact eqv_reps.2
  rw [e]
  exact q
theorem told_4 {l m : List Int} {H : Hp} {v : V} (h : Told 4 l m H v) : v = .str "!w" := by
  rcases h with ⟨_, e, _⟩ | ⟨_, h⟩ | ⟨_, e, _⟩ | ⟨_, _, e, _⟩ | ⟨_, _, e, _⟩ | ⟨_, _, e, _⟩ | ⟨_, e, _⟩ | ⟨_, e, _⟩
  · exact absurd rfl e
  · exact h
  all_goals exact absurd e (by decide)
theorem told_5 {l m : List Int} {H : Hp} {v : V} (h : Told 5 l m H v) (e1 : isP l = true) : v = .non := by
  rcases h with ⟨e, _⟩ | ⟨e, _⟩ | ⟨_, e, _⟩ | ⟨_, _, e, _⟩ | ⟨_, _, e, _⟩ | ⟨_, _, e, _⟩ | ⟨_, e, _⟩ | ⟨_, _, h⟩
  · rw [e1] at e
    exact nomatch e
  · exact absurd e (by decide)
  · exact absurd e (by decide)
  · exact absurd e (by decide)
  · exact absurd e (by decide)
  · exact absurd e (by decide)
  · exact absurd e (by decide)
  · exact h
theorem told_2l {l m : List Int} {H : Hp} {v : V} (h : Told 2 l m H v) (e1 : isP l = true) (e2 : isP m = true) (hp : prodLen l m > 200) : v = .str "!l" := by
  rcases h with ⟨e, _⟩ | ⟨e, _⟩ | ⟨_, _, e, _⟩ | ⟨_, _, _, _, h⟩ | ⟨_, _, e, _⟩ | ⟨_, _, _, e, _⟩ | ⟨_, e, _⟩ | ⟨_, e, _⟩
  · rw [e1] at e
    exact nomatch e
  · exact absurd e (by decide)
  · rw [e2] at e
    exact nomatch e
  · exact h
  · exact absurd e (by decide)
  · omega
  · exact absurd e (by decide)
  · exact absurd e (by decide)
def LG : List Int := [1] ++ List.replicate 99 0 ++ [1]
theorem LG_ok : isP LG = true ∧ isP (LG ++ [2]) = true ∧ isP (LG.drop 1) = true ∧ prodLen LG (LG ++ [2]) > 200 ∧ prodLen LG (LG.drop 1) = 200 ∧ (LG.all fun y => decide (y.natAbs ≤ 5)) = true := by decide +kernel
section
variable {P : Program} {w : World} {K : PySem.W.Frag} {mg : Str → Option Value} {base : Heap}
def spLaw (K : PySem.W.Frag) : Sp := fun vs H Q _ => ∃ (a : Addr) (ns : List Int), vs = [.ref a] ∧ SqL K H a (ns.map V.int) ∧ ns.length ≤ 63 ∧ ∀ H', Q (.bl true) H'
theorem ok_law {f CW CP CT a_law_draws a_law_next a_law_world a_law_poly a_law_plus a_law_times a_law_told a_law_value a_law_made a_value_at a_value a_is_poly a_multiplied_polys : Addr} {fd fd_law_draws fd_law_next fd_law_world fd_law_poly fd_law_plus fd_law_times fd_law_told fd_law_value fd_law_made fd_value_at fd_value fd_is_poly fd_multiplied_polys : FuncData} (F : Fun K "law" "law" s_law f fd)
    (z_int : mg "int" = none) (z_len : mg "len" = none) (z_repr : mg "repr" = none) (z_range : mg "range" = none) (z_tuple : mg "tuple" = none)
    (G_law_draws : FnOk P w K mg base CX0 2 a_law_draws fd_law_draws ["script"] (spDraws K)) (g_law_draws : mg "_law_draws" = some (.ref a_law_draws)) (k_law_draws : PySem.W.keepIn K (.ref a_law_draws) = true) (b_law_draws : Binds K fd_law_draws ["script"] [])
    (G_law_next : FnOk P w K mg base CX0 1 a_law_next fd_law_next ["draws"] spNext) (g_law_next : mg "_law_next" = some (.ref a_law_next)) (k_law_next : PySem.W.keepIn K (.ref a_law_next) = true) (b_law_next : Binds K fd_law_next ["draws"] [])
    (G_law_world : FnOk P w K mg base CX0 2 a_law_world fd_law_world ["draws"] spLawWorld) (g_law_world : mg "_law_world" = some (.ref a_law_world)) (k_law_world : PySem.W.keepIn K (.ref a_law_world) = true) (b_law_world : Binds K fd_law_world ["draws"] [])
    (G_law_poly : FnOk P w K mg base CX0 2 a_law_poly fd_law_poly ["draws", "most"] (spLawPoly K)) (g_law_poly : mg "_law_poly" = some (.ref a_law_poly)) (k_law_poly : PySem.W.keepIn K (.ref a_law_poly) = true) (b_law_poly : Binds K fd_law_poly ["draws", "most"] [])
    (G_law_plus : FnOk P w K mg base CX0 2 a_law_plus fd_law_plus ["one", "other"] (spLawPlus K)) (g_law_plus : mg "_law_plus" = some (.ref a_law_plus)) (k_law_plus : PySem.W.keepIn K (.ref a_law_plus) = true) (b_law_plus : Binds K fd_law_plus ["one", "other"] [])
    (G_law_times : FnOk P w K mg base CX0 2 a_law_times fd_law_times ["one", "other"] (spLawTimes K)) (g_law_times : mg "_law_times" = some (.ref a_law_times)) (k_law_times : PySem.W.keepIn K (.ref a_law_times) = true) (b_law_times : Binds K fd_law_times ["one", "other"] [])
    (G_law_told : FnOk P w K mg base CX0 5 a_law_told fd_law_told ["way", "one", "other"] (spTold4 K)) (g_law_told : mg "_law_told" = some (.ref a_law_told)) (k_law_told : PySem.W.keepIn K (.ref a_law_told) = true) (b_law_told : Binds K fd_law_told ["way", "one", "other"] [])
    (G_law_value : FnOk P w K mg base CX0 1 a_law_value fd_law_value ["poly", "x"] (spLawValue K)) (g_law_value : mg "_law_value" = some (.ref a_law_value)) (k_law_value : PySem.W.keepIn K (.ref a_law_value) = true) (b_law_value : Binds K fd_law_value ["poly", "x"] [])
    (G_law_made : FnOk P w K mg base CX0 2 a_law_made fd_law_made ["p", "a", "b"] spLawMade) (g_law_made : mg "_law_made" = some (.ref a_law_made)) (k_law_made : PySem.W.keepIn K (.ref a_law_made) = true) (b_law_made : Binds K fd_law_made ["p", "a", "b"] [])
    (G_value_at : FnOk P w K mg base (L2.CX P w) 3 a_value_at fd_value_at ["poly", "x"] (spValueAt K CP)) (g_value_at : mg "value_at" = some (.ref a_value_at)) (k_value_at : PySem.W.keepIn K (.ref a_value_at) = true) (b_value_at : Binds K fd_value_at ["poly", "x"] [])
    (G_value : FnOk P w K mg base (L2.CX P w) 4 a_value fd_value ["world", "poly"] (spValue K CW CP)) (g_value : mg "value" = some (.ref a_value)) (k_value : PySem.W.keepIn K (.ref a_value) = true) (b_value : Binds K fd_value ["world", "poly"] [])
    (G_is_poly : FnOk P w K mg base CX0 1 a_is_poly fd_is_poly ["poly"] (spIsPoly K)) (g_is_poly : mg "is_poly" = some (.ref a_is_poly)) (k_is_poly : PySem.W.keepIn K (.ref a_is_poly) = true) (b_is_poly : Binds K fd_is_poly ["poly"] [])
    (G_multiplied_polys : FnOk P w K mg base (L2.CX P w) 3 a_multiplied_polys fd_multiplied_polys ["one", "other"] (spMul K CP CT)) (g_multiplied_polys : mg "multiplied_polys" = some (.ref a_multiplied_polys)) (k_multiplied_polys : PySem.W.keepIn K (.ref a_multiplied_polys) = true) (b_multiplied_polys : Binds K fd_multiplied_polys ["one", "other"] []) :
    FnG P w K mg base 6 f fd ["script"] (spLaw K) := by
  refine F.okG sc_law (fun vs H Q E h => ?_) (fun cdv A outer s H vs Q E hgu hr h => ?_)
  · obtain ⟨a, ns, rfl, _⟩ := h
    rfl
  · obtain ⟨sc, ns, rfl, hS, hlen, q⟩ := h
    refine ⟨_, (pss_cons (ps_set (i := 1) sc_law.nd rfl (.inl rfl) (pe_call G_law_draws (hr.mono (by decide)) rfl g_law_draws k_law_draws b_law_draws .nil pass0 (pa_cons (pv 0) pa_nil)))
  (pss_cons (ps_expr (pe_bm0 PySem.F.plainAttrs_list PySem.F.slot_list_reverse PySem.F.type_list_reverse mt_reverse (pv 1)))
  (pss_cons (ps_set (i := 2) sc_law.nd rfl (.inr rfl) (pe_call G_law_poly (hr.mono (by decide)) rfl g_law_poly k_law_poly b_law_poly .nil pass0 (pa_cons (pv 1) (pa_cons pe_int pa_nil))))
  (pss_cons (ps_set (i := 3) sc_law.nd rfl (.inr rfl) (pe_call G_law_poly (hr.mono (by decide)) rfl g_law_poly k_law_poly b_law_poly .nil pass0 (pa_cons (pv 1) (pa_cons pe_int pa_nil))))
  (pss_cons (ps_set (i := 4) sc_law.nd rfl (.inl rfl) (pe_callTy call_tuple_of (by rfl) z_tuple boot_tuple (pa_cons (pe_lc (own := [("part", 10)]) rfl sc_law.nd (pi_tup (pv 3)) (blkOk_by (N := ["script", "draws", "one", "other", "negative", "due", "x", "world", "bad", "large", "part", "way"]) (sc := defScope s_law) (by first | decide +kernel | rfl)) (fun _ _ _ _ _ => (pg_name (i := 10) sc_law.nd rfl (.inl rfl))) (fun _ _ _ _ _ => pts_nil) (fun _ _ _ _ _ => (pe_op op_sub pe_int (pv 10)))) pa_nil)))
  (pss_cons (ps_set (i := 5) sc_law.nd rfl (.inl rfl) (pe_lst (pa_cons (pe_call G_law_plus (hr.mono (by decide)) rfl g_law_plus k_law_plus b_law_plus .nil pass0 (pa_cons (pv 2) (pa_cons (pv 3) pa_nil))) (pa_cons (pe_call G_law_plus (hr.mono (by decide)) rfl g_law_plus k_law_plus b_law_plus .nil pass0 (pa_cons (pv 2) (pa_cons (pv 4) pa_nil))) (pa_cons (pe_call G_law_times (hr.mono (by decide)) rfl g_law_times k_law_times b_law_times .nil pass0 (pa_cons (pv 2) (pa_cons (pv 3) pa_nil))) pa_nil)))))
  (pss_cons (ps_if (pt_cmpR op_ne (pe_callB (cr_reprD hgu (room65 hr)) (by rfl) z_repr boot_repr (pa_cons (pe_lc (own := [("way", 11)]) rfl sc_law.nd (pi_range1 rfl z_range (pa_cons pe_int pa_nil)) (blkOk_by (N := ["script", "draws", "one", "other", "negative", "due", "x", "world", "bad", "large", "part", "way"]) (sc := defScope s_law) (by first | decide +kernel | rfl)) (fun _ _ _ _ _ => (pg_name (i := 11) sc_law.nd rfl (.inl rfl))) (fun _ _ _ _ _ => pts_nil) (fun _ _ _ _ _ => (pe_call G_law_told (hr.mono (by decide)) rfl g_law_told k_law_told b_law_told .nil pass0 (pa_cons (pv 11) (pa_cons (pv 2) (pa_cons (pv 3) pa_nil)))))) pa_nil)) (pe_callB (cr_reprD hgu (room65 hr)) (by rfl) z_repr boot_repr (pa_cons (pv 5) pa_nil)) (nomark _)) (pss_one (ps_ret pe_bl)) pss_nil)
  (pss_cons (ps_set (i := 6) sc_law.nd rfl (.inl rfl) (pe_op op_sub (pe_op op_mod (pe_callTy call_int1 (by rfl) z_int boot_int (pa_cons (pe_call G_law_next (hr.mono (by decide)) rfl g_law_next k_law_next b_law_next .nil pass0 (pa_cons (pv 1) pa_nil)) pa_nil)) pe_int) pe_int))
  (pss_cons (ps_if (pt_cmpR op_ne (pe_call G_value_at (hr.mono (by decide)) rfl g_value_at k_value_at b_value_at .nil passL (pa_cons (pv 2) (pa_cons (pv 6) pa_nil))) (pe_call G_law_value (hr.mono (by decide)) rfl g_law_value k_law_value b_law_value .nil pass0 (pa_cons (pv 2) (pa_cons (pv 6) pa_nil))) (nomark _)) (pss_one (ps_ret pe_bl)) pss_nil)
  (pss_cons (ps_set (i := 7) sc_law.nd rfl (.inl rfl) (pe_call G_law_world (hr.mono (by decide)) rfl g_law_world k_law_world b_law_world .nil pass0 (pa_cons (pv 1) pa_nil)))
  (pss_cons (ps_if (pt_cmpR op_ne (pe_callB (cr_reprD hgu (room65 hr)) (by rfl) z_repr boot_repr (pa_cons (pe_call G_value (hr.mono (by decide)) rfl g_value k_value b_value .nil passL (pa_cons (pv 7) (pa_cons (pv 2) pa_nil))) pa_nil)) (pe_callB (cr_reprD hgu (room65 hr)) (by rfl) z_repr boot_repr (pa_cons (pe_call G_law_made (hr.mono (by decide)) rfl g_law_made k_law_made b_law_made .nil pass0 (pa_cons (pe_ix ix_tup (pv 7) pe_int (fun _ _ => rfl)) (pa_cons (pe_call G_law_value (hr.mono (by decide)) rfl g_law_value k_law_value b_law_value .nil pass0 (pa_cons (pv 2) (pa_cons (pe_ix ix_tup (pv 7) pe_int (fun _ _ => rfl)) pa_nil))) (pa_cons pe_int pa_nil)))) pa_nil)) (nomark _)) (pss_one (ps_ret pe_bl)) pss_nil)
  (pss_cons (ps_set (i := 8) sc_law.nd rfl (.inr rfl) (pe_ix ix_list (pe_lst (pa_cons (pe_op op_catB (pv 2) (pe_tup (pa_cons pe_int pa_nil))) (pa_cons (pe_op op_repT (pe_tup (pa_cons pe_int pa_nil)) pe_int) (pa_cons (pe_tup (pa_cons pe_int pa_nil)) pa_nil)))) (pe_op op_mod (pe_callTy call_int1 (by rfl) z_int boot_int (pa_cons (pe_call G_law_next (hr.mono (by decide)) rfl g_law_next k_law_next b_law_next .nil pass0 (pa_cons (pv 1) pa_nil)) pa_nil)) pe_int) (fun _ _ => rfl)))
  (pss_cons (ps_if (L2.PW.pt (pw_or (pt_cmpR op_notBl (pe_call G_is_poly (hr.mono (by decide)) rfl g_is_poly k_is_poly b_is_poly .nil pass0 (pa_cons (pv 2) pa_nil)) pe_bl (nomark _)) (pw_or (pt_cmpR op_notBl (pe_call G_is_poly (hr.mono (by decide)) rfl g_is_poly k_is_poly b_is_poly .nil pass0 (pa_cons (pe_op op_repT (pe_tup (pa_cons pe_int pa_nil)) pe_int) pa_nil)) pe_bl (nomark _)) (pw_or1 (pt_cmpR op_notBl (pe_call G_is_poly (hr.mono (by decide)) rfl g_is_poly k_is_poly b_is_poly .nil pass0 (pa_cons (pv 8) pa_nil)) pe_bl (nomark _)))))) (pss_one (ps_ret pe_bl)) pss_nil)
  (pss_cons (ps_if (L2.PW.pt (pw_or (pt_cmpR (op_neD (room64 hr)) (pe_lc (own := [("way", 11)]) rfl sc_law.nd (pi_list (pe_lst (pa_cons pe_int (pa_cons pe_int (pa_cons pe_int (pa_cons pe_int (pa_cons pe_int pa_nil))))))) (blkOk_by (N := ["script", "draws", "one", "other", "negative", "due", "x", "world", "bad", "large", "part", "way"]) (sc := defScope s_law) (by first | decide +kernel | rfl)) (fun _ _ _ _ _ => (pg_name (i := 11) sc_law.nd rfl (.inl rfl))) (fun _ _ _ _ _ => pts_nil) (fun _ _ _ _ _ => (pe_call G_law_told (hr.mono (by decide)) rfl g_law_told k_law_told b_law_told .nil pass0 (pa_cons (pv 11) (pa_cons (pv 8) (pa_cons (pv 2) pa_nil)))))) (pe_op op_rep (pe_lst (pa_cons pe_str pa_nil)) pe_int) (nomark _)) (pw_or1 (pt_cmpR op_ne (pe_call G_law_told (hr.mono (by decide)) rfl g_law_told k_law_told b_law_told .nil pass0 (pa_cons pe_int (pa_cons (pv 8) (pa_cons (pv 2) pa_nil)))) pe_str (nomark _))))) (pss_one (ps_ret pe_bl)) pss_nil)
  (pss_cons (ps_if (L2.PW.pt (pw_or (pt_cmpR (op_neD (room64 hr)) (pe_lc (own := [("way", 11)]) rfl sc_law.nd (pi_range1 rfl z_range (pa_cons pe_int pa_nil)) (blkOk_by (N := ["script", "draws", "one", "other", "negative", "due", "x", "world", "bad", "large", "part", "way"]) (sc := defScope s_law) (by first | decide +kernel | rfl)) (fun _ _ _ _ _ => (pg_name (i := 11) sc_law.nd rfl (.inl rfl))) (fun _ _ _ _ _ => pts_nil) (fun _ _ _ _ _ => (pe_call G_law_told (hr.mono (by decide)) rfl g_law_told k_law_told b_law_told .nil pass0 (pa_cons (pv 11) (pa_cons (pv 2) (pa_cons (pv 8) pa_nil)))))) (pe_op op_rep (pe_lst (pa_cons pe_str pa_nil)) pe_int) (nomark _)) (pw_or1 (pt_cmpR op_notN (pe_call G_law_told (hr.mono (by decide)) rfl g_law_told k_law_told b_law_told .nil pass0 (pa_cons pe_int (pa_cons (pv 2) (pa_cons (pv 2) pa_nil)))) pe_non (nomark _))))) (pss_one (ps_ret pe_bl)) pss_nil)
  (pss_cons (ps_set (i := 9) sc_law.nd rfl (.inl rfl) (pe_op op_catB (pe_op op_catB (pe_tup (pa_cons pe_int pa_nil)) (pe_op op_repT (pe_tup (pa_cons pe_int pa_nil)) pe_int)) (pe_tup (pa_cons pe_int pa_nil))))
  (pss_one (ps_ret (pe_and (pe_cmpR op_eq (pe_call G_law_told (hr.mono (by decide)) rfl g_law_told k_law_told b_law_told .nil pass0 (pa_cons pe_int (pa_cons (pv 9) (pa_cons (pe_op op_catB (pv 9) (pe_tup (pa_cons pe_int pa_nil))) pa_nil)))) pe_str (nomark _)) (pe_one (pe_cmpR op_eq (pe_callB call_len_seq (by rfl) z_len boot_len (pa_cons (pe_call G_multiplied_polys (hr.mono (by decide)) rfl g_multiplied_polys k_multiplied_polys b_multiplied_polys .nil passL (pa_cons (pv 9) (pa_cons (pe_slice sl_tup (pv 9) (po_some pe_int) po_none) pa_nil))) pa_nil)) pe_int (nomark _)))))))))))))))))))))), ?_⟩
    have szl : 3000 ≤ sizeLine := by decide
    refine ⟨_, rfl, sc, ns, rfl, hS, hlen, fun H1 r ds s1 nr hL => ?_⟩
    refine ⟨_, rfl, .inl ⟨rfl, _, .inl (.inl hL)⟩, r, _, rfl, rfl, hL, ?_⟩
    rw [← List.map_reverse]
    generalize ds.reverse = ds1
    refine ⟨_, rfl, r, ds1, 8, rfl, by decide, upd_same, fun o1 l ds2 H2 sb2 hL2 n2 ho1 pl sml ll => ?_⟩
    have hr1 : r ≠ o1 := ne_of hL2 ho1 (fun z => nomatch z)
    refine ⟨_, rfl, r, ds2, 8, rfl, by decide, hL2, fun o2 m ds3 H3 sb3 hL3 n3 ho2 pm smm lm => ?_⟩
    have ho1 := sb3 _ _ (Ne.symm hr1) ho1
    have hr2 : r ≠ o2 := ne_of hL3 ho2 (fun z => nomatch z)
    have el := pol_isP pl (by omega)
    have em := pol_isP pm (by omega)
    -- negative
    refine ⟨_, rfl, o2, rfl, ⟨_, .inl (.inl ho2)⟩, fun D nD => ?_⟩
    let nm : List Int := m.map fun y => 0 - y
    have lnm : nm.length = m.length := List.length_map ..
    have cnm : ∀ k, co nm k = 0 - co m k := fun k => co_map (by decide) m k
    refine lc_it walk_tup (fun i H' => SameBut D H3 H' ∧ H' D = some (.lst ((nm.take i).map V.int))) ⟨SameBut.upd, upd_same⟩ (fun i H' _ hP => .inl (.inl (hP.1 _ _ (ne_of_none ho2 nD) ho2))) (fun i y H4 H5 hi hP hy => ?_) (fun H4 hP => ?_)
    · obtain ⟨sb, hD⟩ := hP
      obtain ⟨e0, hy⟩ := hy
      subst e0
      rw [List.length_map] at hi
      have ey : (m.map V.int)[i]? = some (.int (co m i)) := by rw [List.getElem?_map, co_get hi]; rfl
      obtain rfl : V.int (co m i) = y := Option.some.inj (ey.symm.trans hy)
      refine ⟨rfl, ?_⟩
      refine ⟨_, rfl, _, _, rfl, rfl, _, hD, by rw [List.length_map, List.length_take]; omega, sb.trans SameBut.upd, ?_⟩
      rw [upd_same, List.take_succ, co_get (by omega), cnm, List.map_append]
      rfl
    obtain ⟨sb4, hD⟩ := hP
    rw [List.length_map, ← lnm, List.take_length] at hD
    have s4 : Same H3 H4 := fun b o e => sb4 _ _ (ne_of_none e nD) e
    refine ⟨D, _, rfl, .inl ⟨.inl (.inl hD), fun o3 n3' => ?_⟩⟩
    have s5 : Same H3 (upd H4 o3 (.tup (nm.map V.int))) := Same.trans s4 (same_upd n3')
    have ho3 : upd H4 o3 (.tup (nm.map V.int)) o3 = some (.tup (nm.map V.int)) := upd_same
    revert s5 ho3
    generalize upd H4 o3 (.tup (nm.map V.int)) = H5
    intro s5 ho3
    have t1 := s5 _ _ ho1
    have t2 := s5 _ _ ho2
    -- due
    refine ⟨_, rfl, _, rfl, o1, o2, l, m, rfl, .inl (.inl t1), .inl (.inl t2), by omega, by omega, fun d0 z0 H6 s6 _ hd0 p0 c0 l0 => ?_⟩
    refine ⟨_, rfl, _, rfl, o1, o3, l, nm, rfl, .inl (.inl (s6 _ _ t1)), .inl (.inl (s6 _ _ ho3)), by omega, by omega, fun d1 z1 H7 s7 _ hd1 p1 c1 l1 => ?_⟩
    have s67 := Same.trans s6 s7
    refine ⟨_, rfl, _, rfl, o1, o2, l, m, rfl, .inl (.inl (s67 _ _ t1)), .inl (.inl (s67 _ _ t2)), cm_small (smP_mem sml), by omega, by omega, fun d2 z2 H8 s8 _ hd2 p2 c2 l2 => ?_⟩
    refine ⟨(by show 3 ≤ sizeLine; decide), fun g ng => ?_⟩
    have s58 := Same.trans s67 s8
    have s9 : Same H8 (upd H8 g (.lst [.ref d0, .ref d1, .ref d2])) := same_upd ng
    have hg : upd H8 g (.lst [.ref d0, .ref d1, .ref d2]) g = some (.lst [.ref d0, .ref d1, .ref d2]) := upd_same
    have pd : Paired (TP (upd H8 g (.lst [.ref d0, .ref d1, .ref d2]))) [.ref d0, .ref d1, .ref d2] [z0, z1, z2] :=
      .cons ⟨d0, rfl, s9 _ _ (s8 _ _ (s7 _ _ hd0))⟩ (.cons ⟨d1, rfl, s9 _ _ (s8 _ _ hd1)⟩ (.cons ⟨d2, rfl, s9 _ _ hd2⟩ .nil))
    have s59 := Same.trans s58 s9
    revert s59 hg pd
    generalize upd H8 g (.lst [.ref d0, .ref d1, .ref d2]) = H9
    intro hg pd s59
    have a1 := s59 _ _ t1
    have a2 := s59 _ _ t2
    have hL9 := s59 _ _ (s5 _ _ hL3)
    have hpl : prodLen l m ≤ 200 := by
      unfold prodLen
      split <;> omega
    -- repr
    refine ⟨3, rfl, by decide, by decide, fun D2 nD2 => ?_⟩
    have tr9 : ∀ {H' : Hp}, SameBut D2 H9 H' → Same H9 H' := fun sb b o e => sb _ _ (ne_of_none e nD2) e
    refine lc_range (lo := 0) (n := 3) (fun i H' => SameBut D2 H9 H' ∧ ∃ vs, H' D2 = some (.lst vs) ∧ Paired (TP H') vs ([z0, z1, z2].take i)) ⟨SameBut.upd, [], upd_same, .nil⟩ (fun i H' hi hP => ?_) (fun H' hP => ?_)
    · obtain ⟨sb, vs, hD', pr⟩ := hP
      refine ⟨rfl, ?_⟩
      have st := tr9 sb
      refine ⟨_, rfl, _, rfl, _, rfl, _, o1, o2, l, m, rfl, by omega, by omega, .inl (.inl (st _ _ a1)), .inl (.inl (st _ _ a2)), fun _ => cm_small (smP_mem sml), fun v H'' s'' told => ?_⟩
      obtain ⟨z, ez, tp⟩ : ∃ z, [z0, z1, z2][i]? = some z ∧ TP H'' v z := by
        rcases (show i = 0 ∨ i = 1 ∨ i = 2 by omega) with rfl | rfl | rfl
        · exact ⟨z0, rfl, told_get told el em hpl p0 (.inl ⟨rfl, c0⟩)⟩
        · exact ⟨z1, rfl, told_get told el em hpl p1 (.inr (.inl ⟨rfl, fun k => by rw [c1, cnm]⟩))⟩
        · exact ⟨z2, rfl, told_get told el em hpl p2 (.inr (.inr ⟨rfl, c2⟩))⟩
      have lv := pr.length
      rw [List.length_take] at lv
      have hD'' := s'' _ _ hD'
      have keep : ∀ {x : V} {y : List Int}, TP H'' x y → TP (upd H'' D2 (.lst (vs ++ [v]))) x y := fun {x y} ⟨t, e, h⟩ => ⟨t, e, by rw [upd_ne (ne_of h hD'' (fun z => nomatch z))]; exact h⟩
      have lv3 : vs.length ≤ 3 := by
        rw [lv]
        exact Nat.min_le_right _ _
      refine ⟨vs, hD'', by omega, (sb.trans (Same.but s'')).trans SameBut.upd, vs ++ [v], upd_same, ?_⟩
      rw [List.take_succ, ez]
      exact paired_add (keep tp) (Paired.mapP pr fun _ _ h => keep (h.same s''))
    · obtain ⟨sb, vs, hD', pr⟩ := hP
      have st := tr9 sb
      rw [show [z0, z1, z2].take 3 = [z0, z1, z2] from rfl] at pr
      have s0 : ∀ k, (co z0 k).natAbs < 2 ^ 200 := fun k => by
        rw [c0]
        have := sml k
        have := smm k
        omega
      have s1' : ∀ k, (co z1 k).natAbs < 2 ^ 200 := fun k => by
        rw [c1, cnm]
        have := sml k
        have := smm k
        omega
      have s2' : ∀ k, (co z2 k).natAbs < 2 ^ 200 := fun k => by
        rw [c2]
        have := conv_small sml smm k l.length
        omega
      have mx : max l.length m.length ≤ 8 := Nat.max_le.mpr ⟨ll, lm⟩
      have mx2 : max l.length nm.length ≤ 8 := Nat.max_le.mpr ⟨ll, by omega⟩
      have smd := smL_list (n := 1) (k := 30771) (ds := [z0, z1, z2].map dT) fun X hX => by
        rcases List.mem_cons.mp hX with rfl | hX
        · exact (dT_small s0).more (by omega)
        · rcases List.mem_cons.mp hX with rfl | hX
          · exact (dT_small s1').more (by omega)
          · rw [List.mem_singleton.mp hX]
            exact (dT_small s2').more (by omega)
      have wd := smd.wide (by show (30771 + 2) * 3 + 3 ≤ 16777216; decide)
      have sh := smd.shaped (by decide)
      refine ⟨.ref D2, _, rfl, .lst (.inl (.inl hD')) (tps_dp pr), sh, smd.sho, wd, ?_⟩
      refine ⟨_, rfl, .ref g, _, rfl, .lst (.inl (.inl (st _ _ hg))) (tps_dp (Paired.mapP pd fun _ _ h => h.same st)), sh, smd.sho, wd, rfl, _, rfl, ?_⟩
      rw [decide_eq_true rfl]
      refine iteF ?_
      have a1 := st _ _ a1
      have a2 := st _ _ a2
      have hL10 := st _ _ hL9
      clear pr hD' sb pd hg
      -- x
      refine ⟨_, rfl, r, ds3, rfl, hL10, fun n5 ds5 => .inl ⟨n5, rfl, n5, 41, rfl, rfl, (show (0 : Int) < 41 by decide), _, 20, rfl, rfl, ?_⟩⟩
      have m5 := mod_lt8 n5 (show (0 : Int) < 41 by decide)
      dsimp only
      obtain ⟨x, hx, ex⟩ : ∃ x : Int, x.natAbs ≤ 31 ∧ n5 % 41 - 20 = x := ⟨_, by omega, rfl⟩
      rw [ex]
      have b1 : upd H' r (.lst (ds5.map V.int)) o1 = some (.tup (l.map V.int)) := by rw [upd_ne (Ne.symm hr1)]; exact a1
      have b2 : upd H' r (.lst (ds5.map V.int)) o2 = some (.tup (m.map V.int)) := by rw [upd_ne (Ne.symm hr2)]; exact a2
      have bL : upd H' r (.lst (ds5.map V.int)) r = some (.lst (ds5.map V.int)) := upd_same
      revert b1 b2 bL
      generalize upd H' r (.lst (ds5.map V.int)) = K1
      intro b1 b2 bL
      refine ⟨_, rfl, _, rfl, o1, x, l, rfl, .inl (.inl b1), fun z => (by rw [el] at z; exact nomatch z), fun _ => ⟨by omega, fun K2 k2 => ?_⟩⟩
      have c1' := k2 _ _ b1
      have c2' := k2 _ _ b2
      have cL := k2 _ _ bL
      have smY : ∀ y ∈ l, y.natAbs < 2 ^ 62 := fun y hy => by
        have := smP_mem sml y hy
        omega
      refine ⟨_, rfl, _, rfl, o1, x, l, rfl, .inl (.inl c1'), smY, by omega, rfl, _, rfl, ?_⟩
      rw [decide_eq_true rfl]
      refine iteF ?_
      -- world
      refine ⟨_, rfl, r, ds5, rfl, cL, fun p d ds6 xw K3 kb3 kL _ hw ew => ?_⟩
      have e1' := kb3 _ _ (Ne.symm hr1) c1'
      have e2' := kb3 _ _ (Ne.symm hr2) c2'
      obtain ⟨hp, hd⟩ := isW_cases ew
      have hrw : r ≠ xw := ne_of kL hw (fun z => nomatch z)
      refine ⟨_, rfl, _, rfl, xw, o1, p, d, l, rfl, .inl (.inl hw), .inl (.inl e1'), fun z => (by rw [ew] at z; exact nomatch z), fun _ z => (by rw [el] at z; exact nomatch z), fun _ _ t u v K4 hn k4 ht => ?_⟩
      have evs : (ev d l).natAbs < 2 ^ 199 := by
        have h1 := ev_small hd (smP_mem sml)
        have h2 : 32 ^ l.length ≤ 32 ^ 8 := Nat.pow_le_pow_right (by decide) ll
        have h3 : (5 : Nat) * 32 ^ 8 < 2 ^ 199 := by decide
        omega
      obtain ⟨u1, v1⟩ := num_small hp hn evs (by decide)
      have smp := smL_pair u1 v1
      refine ⟨.ref t, _, rfl, .tup (.inl (.inl ht)) (.cons (.int u) (.cons (.int v) .nil)), smp.shaped (by decide), smp.sho, smp.wide (by decide), ?_⟩
      have hw4 := k4 _ _ hw
      have f1 := k4 _ _ e1'
      refine ⟨_, rfl, xw, _, 0, .int p, rfl, rfl, .inl (.inl hw4), atI_nat (j := 0) rfl, _, rfl, _, rfl, xw, _, 1, .int d, rfl, rfl, .inl (.inl hw4), atI_nat (j := 1) rfl, o1, d, l, rfl, .inl (.inl f1), smY, by omega, p, ev d l, 1, rfl, hp, bad_1 hp, by decide, fun t2 u2 v2 hn2 nt2 => ?_⟩
      obtain ⟨eu, ev'⟩ := num_unique hp (bad_1 hp) hn2 hn
      rw [eu, ev']
      refine ⟨.ref t2, _, rfl, .tup (.inl (.inl upd_same)) (.cons (.int u) (.cons (.int v) .nil)), smp.shaped (by decide), smp.sho, smp.wide (by decide), rfl, _, rfl, ?_⟩
      rw [decide_eq_true rfl]
      refine iteF ?_
      have k5 : Same K4 (upd K4 t2 (.tup [.int u, .int v])) := same_upd nt2
      revert k5
      generalize upd K4 t2 (.tup [.int u, .int v]) = K5
      intro k5
      have g1 := k5 _ _ f1
      have g2 := k5 _ _ (k4 _ _ e2')
      have gL := k5 _ _ (k4 _ _ kL)
      clear hn hn2 ht smp
      -- bad
      refine ⟨_, rfl, (by show 1 ≤ sizeLine; decide), fun q1 nq1 => ?_⟩
      refine ⟨o1, q1, l.map V.int, [.int 0], rfl, rfl, sqT_same (same_upd nq1) (.inl (.inl g1)), .inl (.inl upd_same), by rw [List.length_map]; show l.length + 1 ≤ sizeLine; omega, fun b1' K6 k6 hb1' => ?_⟩
      refine ⟨(by show 1 ≤ sizeLine; decide), fun q2 nq2 => ?_⟩
      refine ⟨q2, 201, [.int 1], rfl, rfl, .inl (.inl upd_same), (fun z => nomatch z), by decide, by decide, by decide, fun b2' nb2 => ?_⟩
      refine ⟨(by show 1 ≤ sizeLine; decide), fun b3' nb3 => ?_⟩
      refine ⟨(by show 3 ≤ sizeLine; decide), fun g3 ng3 => ?_⟩
      rw [show (List.replicate (201 : Int).toNat [V.int 1]).flatten = (List.replicate 201 (1 : Int)).map V.int by rw [show (201 : Int).toNat = 201 from rfl, repT, List.map_replicate]] at nb3 ng3 ⊢
      have q7 : Same K6 (upd (upd (upd (upd K6 q2 (.tup [.int 1])) b2' (.tup ((List.replicate 201 (1 : Int)).map V.int))) b3' (.tup [.int 0])) g3 (.lst [.ref b1', .ref b2', .ref b3'])) := Same.trans (Same.trans (Same.trans (same_upd nq2) (same_upd nb2)) (same_upd nb3)) (same_upd ng3)
      have hg3 : (upd (upd (upd (upd K6 q2 (.tup [.int 1])) b2' (.tup ((List.replicate 201 (1 : Int)).map V.int))) b3' (.tup [.int 0])) g3 (.lst [.ref b1', .ref b2', .ref b3'])) g3 = some (.lst [.ref b1', .ref b2', .ref b3']) := upd_same
      have hb2' : (upd (upd (upd (upd K6 q2 (.tup [.int 1])) b2' (.tup ((List.replicate 201 (1 : Int)).map V.int))) b3' (.tup [.int 0])) g3 (.lst [.ref b1', .ref b2', .ref b3'])) b2' = some (.tup ((List.replicate 201 (1 : Int)).map V.int)) := same_upd ng3 _ _ (same_upd nb3 _ _ upd_same)
      have hb3' : (upd (upd (upd (upd K6 q2 (.tup [.int 1])) b2' (.tup ((List.replicate 201 (1 : Int)).map V.int))) b3' (.tup [.int 0])) g3 (.lst [.ref b1', .ref b2', .ref b3'])) b3' = some (.tup [.int 0]) := same_upd ng3 _ _ upd_same
      revert q7 hg3 hb2' hb3'
      generalize (upd (upd (upd (upd K6 q2 (.tup [.int 1])) b2' (.tup ((List.replicate 201 (1 : Int)).map V.int))) b3' (.tup [.int 0])) g3 (.lst [.ref b1', .ref b2', .ref b3'])) = K7
      intro q7 hg3 hb2' hb3'
      have k57 : Same K5 K7 := Same.trans (Same.trans (same_upd nq1) k6) q7
      have g1 := k57 _ _ g1
      have g2 := k57 _ _ g2
      have gL := k57 _ _ gL
      have hb1' := sqT_same q7 hb1'
      refine ⟨_, rfl, r, ds6, rfl, gL, fun n7 ds7 => .inl ⟨n7, rfl, n7, 3, rfl, rfl, (show (0 : Int) < 3 by decide), ?_⟩⟩
      have sbr : SameBut r K7 (upd K7 r (.lst (ds7.map V.int))) := SameBut.upd
      have hrg : r ≠ g3 := fun z => by
        rw [← z, gL] at hg3
        have := Option.some.inj hg3
        injection this with this
        cases ds6 with
        | nil => exact nomatch this
        | cons a b => exact nomatch (List.cons.inj this).1
      have hg3' := sbr _ _ (Ne.symm hrg) hg3
      have g1 := sbr _ _ (Ne.symm hr1) g1
      have B1 := sqT_butL gL sbr hb1'
      have B2 : SqT K (upd K7 r (.lst (ds7.map V.int))) b2' ((List.replicate 201 (1 : Int)).map V.int) := sqT_butL gL sbr (.inl (.inl hb2'))
      have B3 : SqT K (upd K7 r (.lst (ds7.map V.int))) b3' ([(0 : Int)].map V.int) := sqT_butL gL sbr (.inl (.inl hb3'))
      revert hg3' g1 B1 B2 B3
      generalize upd K7 r (.lst (ds7.map V.int)) = K8
      intro hg3' g1 B1 B2 B3
      obtain ⟨c, cl, hc, hcl, ecl, scl⟩ : ∃ (c : Addr) (cl : List Int), atI [V.ref b1', V.ref b2', V.ref b3'] (n7 % 3) = some (.ref c) ∧ SqT K K8 c (cl.map V.int) ∧ isP cl = false ∧ ∀ y ∈ cl, y.natAbs ≤ 5 := by
        have m7 := mod_lt8 n7 (show (0 : Int) < 3 by decide)
        rcases (show n7 % 3 = 0 ∨ n7 % 3 = 1 ∨ n7 % 3 = 2 by omega) with e | e | e <;> rw [e]
        · refine ⟨b1', l ++ [0], atI_nat (j := 0) rfl, by rw [List.map_append]; exact B1, isP_app0 (by omega), fun y hy => ?_⟩
          rcases List.mem_append.mp hy with hy | hy
          · exact smP_mem sml y hy
          · rw [List.mem_singleton.mp hy]
            decide
        · refine ⟨b2', _, atI_nat (j := 1) rfl, B2, isP_201, fun y hy => ?_⟩
          rw [(List.mem_replicate.mp hy).2]
          decide
        · refine ⟨b3', _, atI_nat (j := 2) rfl, B3, isP_0, fun y hy => ?_⟩
          rw [List.mem_singleton.mp hy]
          decide
      refine ⟨g3, _, n7 % 3, .ref c, rfl, rfl, .inl (.inl hg3'), hc, ?_⟩
      -- is_poly
      refine ⟨_, rfl, o1, l, rfl, .inl (.inl g1), _, _, rfl, rfl, _, rfl, ?_⟩
      rw [el]
      refine iteF ?_
      refine ⟨(by show 1 ≤ sizeLine; decide), fun w1 nw1 => ?_⟩
      refine ⟨w1, 200, [.int 1], rfl, rfl, .inl (.inl upd_same), (fun z => nomatch z), by decide, by decide, by decide, fun w2 nw2 => ?_⟩
      rw [show (List.replicate (200 : Int).toNat [V.int 1]).flatten = (List.replicate 200 (1 : Int)).map V.int by rw [show (200 : Int).toNat = 200 from rfl, repT, List.map_replicate]]
      refine ⟨w2, List.replicate 200 1, rfl, .inl (.inl upd_same), _, _, rfl, rfl, _, rfl, ?_⟩
      rw [isP_200]
      refine iteF ?_
      have s8' : Same K8 (upd (upd K8 w1 (.tup [.int 1])) w2 (.tup ((List.replicate 200 (1 : Int)).map V.int))) := Same.trans (same_upd nw1) (same_upd nw2)
      revert s8'
      generalize upd (upd K8 w1 (.tup [.int 1])) w2 (.tup ((List.replicate 200 (1 : Int)).map V.int)) = K9
      intro s8'
      have g1 := s8' _ _ g1
      have hcl := sqT_same s8' hcl
      refine ⟨_, rfl, c, cl, rfl, hcl, _, _, rfl, rfl, _, rfl, ?_⟩
      rw [ecl]
      refine iteF ?_
      -- told of bad
      refine ⟨(by show 5 ≤ sizeLine; decide), fun w3 nw3 => ?_⟩
      have hw3 : upd K9 w3 (.lst [.int 0, .int 1, .int 2, .int 3, .int 5]) w3 = some (.lst ([(0 : Int), 1, 2, 3, 5].map V.int)) := upd_same
      have s10 : Same K9 (upd K9 w3 (.lst [.int 0, .int 1, .int 2, .int 3, .int 5])) := same_upd nw3
      refine ⟨w3, rfl, ⟨_, .inl (.inl hw3)⟩, fun D3 nD3 => ?_⟩
      revert hw3 s10 nD3
      generalize upd K9 w3 (.lst [.int 0, .int 1, .int 2, .int 3, .int 5]) = K10
      intro hw3 s10 nD3
      have g1 := s10 _ _ g1
      have hcl := sqT_same s10 hcl
      have tr10 : ∀ {H' : Hp}, SameBut D3 K10 H' → Same K10 H' := fun sb b o e => sb _ _ (ne_of_none e nD3) e
      refine lc_list (xs := [(0 : Int), 1, 2, 3, 5].map V.int) (fun i H' => SameBut D3 K10 H' ∧ H' D3 = some (.lst (List.replicate i (V.str "!p")))) ⟨SameBut.upd, upd_same⟩ (fun i H' _ hP => .inl (.inl (tr10 hP.1 _ _ hw3))) (fun i y H' hi hP => ?_) (fun H' hP => ?_)
      · obtain ⟨sb, hD'⟩ := hP
        have st := tr10 sb
        have hi5 : i < 5 := (List.getElem?_eq_some_iff.mp hi).1
        obtain ⟨way, rfl, hw0, hw5, hw4'⟩ : ∃ way : Int, y = .int way ∧ 0 ≤ way ∧ way ≤ 5 ∧ way ≠ 4 := by
          rcases (show i = 0 ∨ i = 1 ∨ i = 2 ∨ i = 3 ∨ i = 4 by omega) with rfl | rfl | rfl | rfl | rfl
          · exact ⟨0, (Option.some.inj hi).symm, by decide, by decide, by decide⟩
          · exact ⟨1, (Option.some.inj hi).symm, by decide, by decide, by decide⟩
          · exact ⟨2, (Option.some.inj hi).symm, by decide, by decide, by decide⟩
          · exact ⟨3, (Option.some.inj hi).symm, by decide, by decide, by decide⟩
          · exact ⟨5, (Option.some.inj hi).symm, by decide, by decide, by decide⟩
        refine ⟨rfl, ?_⟩
        refine ⟨_, rfl, _, rfl, _, rfl, way, c, o1, cl, l, rfl, hw0, hw5, sqT_same st hcl, .inl (.inl (st _ _ g1)), fun _ => cm_small scl, fun v H'' s'' told => ?_⟩
        rw [told_bad told ecl hw4']
        refine ⟨_, s'' _ _ hD', by rw [List.length_replicate]; omega, (sb.trans (Same.but s'')).trans SameBut.upd, ?_⟩
        rw [upd_same, List.replicate_succ']
      · obtain ⟨sb, hD'⟩ := hP
        have st := tr10 sb
        have g1 := st _ _ g1
        have hcl := sqT_same st hcl
        refine ⟨(by show 1 ≤ sizeLine; decide), fun w4 nw4 => ?_⟩
        refine ⟨w4, 5, [.str "!p"], rfl, rfl, upd_same, by decide, by decide, by decide, fun w5 nw5 => ?_⟩
        rw [show (List.replicate (5 : Int).toNat [V.str "!p"]).flatten = List.replicate 5 (V.str "!p") from repT _ 5]
        have s11 : Same H' (upd (upd H' w4 (.lst [.str "!p"])) w5 (.lst (List.replicate 5 (V.str "!p")))) := Same.trans (same_upd nw4) (same_upd nw5)
        refine ne_reps (n := 5) (.inl rfl) (s11 _ _ hD') upd_same ⟨_, rfl, iteF ?_⟩
        have g1 := s11 _ _ g1
        have hcl := sqT_same s11 hcl
        refine ⟨_, rfl, _, rfl, 4, c, o1, cl, l, rfl, by decide, by decide, hcl, .inl (.inl g1), fun z => absurd z (by decide), fun v H2' s2' told => ?_⟩
        rw [told_4 told]
        refine ⟨rfl, _, rfl, ?_⟩
        rw [decide_eq_true rfl]
        refine iteF ?_
        have g1 := s2' _ _ g1
        have hcl := sqT_same s2' hcl
        clear told hD' sb st tr10 hw3 nD3 s10
        -- told of one and bad
        refine ⟨3, rfl, by decide, by decide, fun D4 nD4 => ?_⟩
        have tr11 : ∀ {H' : Hp}, SameBut D4 H2' H' → Same H2' H' := fun sb b o e => sb _ _ (ne_of_none e nD4) e
        refine lc_range (lo := 0) (n := 3) (fun i H' => SameBut D4 H2' H' ∧ H' D4 = some (.lst (List.replicate i (V.str "!p")))) ⟨SameBut.upd, upd_same⟩ (fun i H' hi hP => ?_) (fun H' hP => ?_)
        · obtain ⟨sb, hD'⟩ := hP
          have st := tr11 sb
          refine ⟨rfl, ?_⟩
          refine ⟨_, rfl, _, rfl, _, rfl, _, o1, c, l, cl, rfl, by omega, by omega, .inl (.inl (st _ _ g1)), sqT_same st hcl, fun _ => cm_small (smP_mem sml), fun v H'' s'' told => ?_⟩
          rw [told_bad2 told el ecl (by omega)]
          refine ⟨_, s'' _ _ hD', by rw [List.length_replicate]; omega, (sb.trans (Same.but s'')).trans SameBut.upd, ?_⟩
          rw [upd_same, List.replicate_succ']
        · obtain ⟨sb, hD'⟩ := hP
          have st := tr11 sb
          have g1 := st _ _ g1
          refine ⟨(by show 1 ≤ sizeLine; decide), fun w4 nw4 => ?_⟩
          refine ⟨w4, 3, [.str "!p"], rfl, rfl, upd_same, by decide, by decide, by decide, fun w5 nw5 => ?_⟩
          rw [show (List.replicate (3 : Int).toNat [V.str "!p"]).flatten = List.replicate 3 (V.str "!p") from repT _ 3]
          have s12 : Same H' (upd (upd H' w4 (.lst [.str "!p"])) w5 (.lst (List.replicate 3 (V.str "!p")))) := Same.trans (same_upd nw4) (same_upd nw5)
          refine ne_reps (n := 3) (.inr rfl) (s12 _ _ hD') upd_same ⟨_, rfl, iteF ?_⟩
          have g1 := s12 _ _ g1
          refine ⟨_, rfl, _, rfl, 5, o1, o1, l, l, rfl, by decide, by decide, .inl (.inl g1), .inl (.inl g1), fun z => absurd z (by decide), fun v H3' s3' told => ?_⟩
          rw [told_5 told el]
          refine ⟨rfl, _, rfl, ?_⟩
          rw [decide_eq_true rfl]
          refine iteF ?_
          clear told hD' sb st tr11
          -- large
          refine ⟨(by show 1 ≤ sizeLine; decide), fun v1 nv1 => ?_⟩
          refine ⟨(by show 1 ≤ sizeLine; decide), fun v2 nv2 => ?_⟩
          refine ⟨v2, 99, [.int 0], rfl, rfl, .inl (.inl upd_same), (fun z => nomatch z), by decide, by decide, by decide, fun v3 nv3 => ?_⟩
          rw [show (List.replicate (99 : Int).toNat [V.int 0]).flatten = (List.replicate 99 (0 : Int)).map V.int by rw [show (99 : Int).toNat = 99 from rfl, repT, List.map_replicate]]
          refine ⟨v1, v3, [(1 : Int)].map V.int, (List.replicate 99 (0 : Int)).map V.int, rfl, rfl, .inl (.inl (same_upd nv3 _ _ (same_upd nv2 _ _ upd_same))), .inl (.inl upd_same), by decide, fun v4 K11 k11 hv4 => ?_⟩
          refine ⟨(by show 1 ≤ sizeLine; decide), fun v5 nv5 => ?_⟩
          refine ⟨v4, v5, _, [(1 : Int)].map V.int, rfl, rfl, sqT_same (same_upd nv5) hv4, .inl (.inl upd_same), by decide, fun lg K12 k12 hlg => ?_⟩
          have hlg : SqT K K12 lg (LG.map V.int) := hlg
          obtain ⟨G1, G2, G3, G4, G5, G6⟩ := LG_ok
          have cmL : ∀ {m : List Int}, ∀ x ∈ LG, ∀ y ∈ m, CMul x y := cm_small fun y hy => of_decide_eq_true (List.all_eq_true.mp G6 y hy)
          refine ⟨_, rfl, _, rfl, (by show 1 ≤ sizeLine; decide), fun v6 nv6 => ?_⟩
          refine ⟨lg, v6, LG.map V.int, [(2 : Int)].map V.int, rfl, rfl, sqT_same (same_upd nv6) hlg, .inl (.inl upd_same), by decide, fun l2 K13 k13 hl2 => ?_⟩
          have hlg := sqT_same k13 (sqT_same (same_upd nv6) hlg)
          rw [← List.map_append] at hl2
          refine ⟨2, lg, l2, LG, LG ++ [2], rfl, by decide, by decide, hlg, hl2, fun _ => cmL, fun v H4' s4' told => ?_⟩
          rw [told_2l told G1 G2 G4]
          have hlg := sqT_same s4' hlg
          refine ⟨rfl, _, rfl, ?_⟩
          rw [decide_eq_true rfl]
          refine iteT ?_
          have nwh : ¬ (HT.sIx (LG.map V.int).length 0 (some 1) = 0 ∧ HT.sIx (LG.map V.int).length (LG.map V.int).length none = (LG.map V.int).length) := by decide +kernel
          refine ⟨_, rfl, _, rfl, 1, rfl, lg, _, rfl, hlg, nwh, fun v7 nv7 => ?_⟩
          have cut1 : cutV (LG.map V.int) (some 1) none = (LG.drop 1).map V.int := by decide +kernel
          rw [cut1]
          refine ⟨lg, v7, LG, LG.drop 1, rfl, sqT_same (same_upd nv7) hlg, .inl (.inl upd_same), fun z => (by rw [G1] at z; exact nomatch z), fun _ z => (by rw [G3] at z; exact nomatch z), fun _ _ => ⟨fun z => absurd z (by rw [G5]; decide), fun _ => ⟨cmL, fun t zs H9' _ ht _ _ hl => ?_⟩⟩⟩
          refine ⟨t, _, rfl, .inr (.inl (.inl ht)), rfl, ?_⟩
          rw [List.length_map, hl, G5, decide_eq_true (show V.int ((200 : Nat) : Int) = V.int 200 from rfl)]
          exact q _
end

theorem all_mk {P : Program} {w : World} {K : PySem.W.Frag} {h : Heap} {mg : Str → Option Value} {fa : Addr} (X : K.In h) (G : h.Ns mainGlobals mg) (hfa : mg "law" = some (.ref fa))
    {f_is_world : Addr} {od_is_world an_is_world : Option Addr} {sl_is_world : Array (Option Value)} {oc_is_world kV_is_world dc_is_world pm_is_world cd_is_world ct_is_world : Value}
    {f_law_plain : Addr} {od_law_plain an_law_plain : Option Addr} {sl_law_plain : Array (Option Value)} {oc_law_plain kV_law_plain dc_law_plain pm_law_plain cd_law_plain ct_law_plain : Value}
    {f_law_next : Addr} {od_law_next an_law_next : Option Addr} {sl_law_next : Array (Option Value)} {oc_law_next kV_law_next dc_law_next pm_law_next cd_law_next ct_law_next : Value}
    {f_law_draws : Addr} {od_law_draws an_law_draws : Option Addr} {sl_law_draws : Array (Option Value)} {oc_law_draws kV_law_draws dc_law_draws pm_law_draws cd_law_draws ct_law_draws : Value}
    {f_check_world : Addr} {od_check_world an_check_world : Option Addr} {sl_check_world : Array (Option Value)} {oc_check_world kV_check_world dc_check_world pm_check_world cd_check_world ct_check_world : Value}
    {f_lowest_ : Addr} {od_lowest_ an_lowest_ : Option Addr} {sl_lowest_ : Array (Option Value)} {oc_lowest_ kV_lowest_ dc_lowest_ pm_lowest_ cd_lowest_ ct_lowest_ : Value}
    {f_inverse_ : Addr} {od_inverse_ an_inverse_ : Option Addr} {sl_inverse_ : Array (Option Value)} {oc_inverse_ kV_inverse_ dc_inverse_ pm_inverse_ cd_inverse_ ct_inverse_ : Value}
    {dT_number : Addr}
    {f_number : Addr} {od_number an_number : Option Addr} {sl_number : Array (Option Value)} {oc_number kV_number dc_number pm_number cd_number ct_number : Value}
    {f_law_lowest : Addr} {od_law_lowest an_law_lowest : Option Addr} {sl_law_lowest : Array (Option Value)} {oc_law_lowest kV_law_lowest dc_law_lowest pm_law_lowest cd_law_lowest ct_law_lowest : Value}
    {f_law_made : Addr} {od_law_made an_law_made : Option Addr} {sl_law_made : Array (Option Value)} {oc_law_made kV_law_made dc_law_made pm_law_made cd_law_made ct_law_made : Value}
    {f_law_world : Addr} {od_law_world an_law_world : Option Addr} {sl_law_world : Array (Option Value)} {oc_law_world kV_law_world dc_law_world pm_law_world cd_law_world ct_law_world : Value}
    {f_is_poly : Addr} {od_is_poly an_is_poly : Option Addr} {sl_is_poly : Array (Option Value)} {oc_is_poly kV_is_poly dc_is_poly pm_is_poly cd_is_poly ct_is_poly : Value}
    {f_check_poly : Addr} {od_check_poly an_check_poly : Option Addr} {sl_check_poly : Array (Option Value)} {oc_check_poly kV_check_poly dc_check_poly pm_check_poly cd_check_poly ct_check_poly : Value}
    {f_part_ : Addr} {od_part_ an_part_ : Option Addr} {sl_part_ : Array (Option Value)} {oc_part_ kV_part_ dc_part_ pm_part_ cd_part_ ct_part_ : Value}
    {f_trimmed_ : Addr} {od_trimmed_ an_trimmed_ : Option Addr} {sl_trimmed_ : Array (Option Value)} {oc_trimmed_ kV_trimmed_ dc_trimmed_ pm_trimmed_ cd_trimmed_ ct_trimmed_ : Value}
    {f_combined_ : Addr} {od_combined_ an_combined_ : Option Addr} {sl_combined_ : Array (Option Value)} {oc_combined_ kV_combined_ dc_combined_ pm_combined_ cd_combined_ ct_combined_ : Value}
    {f_added : Addr} {od_added an_added : Option Addr} {sl_added : Array (Option Value)} {oc_added kV_added dc_added pm_added cd_added ct_added : Value}
    {f_subtracted : Addr} {od_subtracted an_subtracted : Option Addr} {sl_subtracted : Array (Option Value)} {oc_subtracted kV_subtracted dc_subtracted pm_subtracted cd_subtracted ct_subtracted : Value}
    {f_multiplied_polys : Addr} {od_multiplied_polys an_multiplied_polys : Option Addr} {sl_multiplied_polys : Array (Option Value)} {oc_multiplied_polys kV_multiplied_polys dc_multiplied_polys pm_multiplied_polys cd_multiplied_polys ct_multiplied_polys : Value}
    {f_split_off_ : Addr} {od_split_off_ an_split_off_ : Option Addr} {sl_split_off_ : Array (Option Value)} {oc_split_off_ kV_split_off_ dc_split_off_ pm_split_off_ cd_split_off_ ct_split_off_ : Value}
    {f_value_at : Addr} {od_value_at an_value_at : Option Addr} {sl_value_at : Array (Option Value)} {oc_value_at kV_value_at dc_value_at pm_value_at cd_value_at ct_value_at : Value}
    {f_value : Addr} {od_value an_value : Option Addr} {sl_value : Array (Option Value)} {oc_value kV_value dc_value pm_value cd_value ct_value : Value}
    {f_law_cut : Addr} {od_law_cut an_law_cut : Option Addr} {sl_law_cut : Array (Option Value)} {oc_law_cut kV_law_cut dc_law_cut pm_law_cut cd_law_cut ct_law_cut : Value}
    {f_law_poly : Addr} {od_law_poly an_law_poly : Option Addr} {sl_law_poly : Array (Option Value)} {oc_law_poly kV_law_poly dc_law_poly pm_law_poly cd_law_poly ct_law_poly : Value}
    {f_law_value : Addr} {od_law_value an_law_value : Option Addr} {sl_law_value : Array (Option Value)} {oc_law_value kV_law_value dc_law_value pm_law_value cd_law_value ct_law_value : Value}
    {f_law_times : Addr} {od_law_times an_law_times : Option Addr} {sl_law_times : Array (Option Value)} {oc_law_times kV_law_times dc_law_times pm_law_times cd_law_times ct_law_times : Value}
    {f_law_plus : Addr} {od_law_plus an_law_plus : Option Addr} {sl_law_plus : Array (Option Value)} {oc_law_plus kV_law_plus dc_law_plus pm_law_plus cd_law_plus ct_law_plus : Value}
    {f_law_told : Addr} {od_law_told an_law_told : Option Addr} {sl_law_told : Array (Option Value)} {oc_law_told kV_law_told dc_law_told pm_law_told cd_law_told ct_law_told : Value}
    {f_law : Addr} {od_law an_law : Option Addr} {sl_law : Array (Option Value)} {oc_law kV_law dc_law pm_law cd_law ct_law : Value}
    {aP : Addr} {ddP : Option Addr} {nP : Nat} {slP : Array (Option Value)} {u2 u3 u5 u7 u11 u13 u17 u19 u23 u29 u31 : Tok}
    {CW : Addr}
    {CP : Addr}
    {CB : Addr}
    {CT : Addr}
    {dd_number : Option Addr} {un : Tok} {nn_number : Nat} {sd_number : Array (Option Value)}
    {tm_MOST_PARTS : Tok}
    {CE : Addr}
    (a_is_world : PySem.W.nsIn K mainGlobals "is_world" = some (some (.ref f_is_world))) (l_is_world : K.lookup f_is_world = some ⟨oc_is_world, od_is_world, .func (PySem.W.fnOf "is_world" "is_world" (defArgs s_is_world) (defBody s_is_world) (defScope s_is_world) .none kV_is_world dc_is_world pm_is_world an_is_world cd_is_world ct_is_world), sl_is_world⟩) (c_is_world : PySem.W.codeIn K cd_is_world "is_world" = true) (k_is_world : PySem.W.keepIn K (.ref f_is_world) = true)
    (a_law_plain : PySem.W.nsIn K mainGlobals "_law_plain" = some (some (.ref f_law_plain))) (l_law_plain : K.lookup f_law_plain = some ⟨oc_law_plain, od_law_plain, .func (PySem.W.fnOf "_law_plain" "_law_plain" (defArgs s_law_plain) (defBody s_law_plain) (defScope s_law_plain) .none kV_law_plain dc_law_plain pm_law_plain an_law_plain cd_law_plain ct_law_plain), sl_law_plain⟩) (c_law_plain : PySem.W.codeIn K cd_law_plain "_law_plain" = true) (k_law_plain : PySem.W.keepIn K (.ref f_law_plain) = true)
    (a_law_next : PySem.W.nsIn K mainGlobals "_law_next" = some (some (.ref f_law_next))) (l_law_next : K.lookup f_law_next = some ⟨oc_law_next, od_law_next, .func (PySem.W.fnOf "_law_next" "_law_next" (defArgs s_law_next) (defBody s_law_next) (defScope s_law_next) .none kV_law_next dc_law_next pm_law_next an_law_next cd_law_next ct_law_next), sl_law_next⟩) (c_law_next : PySem.W.codeIn K cd_law_next "_law_next" = true) (k_law_next : PySem.W.keepIn K (.ref f_law_next) = true)
    (a_law_draws : PySem.W.nsIn K mainGlobals "_law_draws" = some (some (.ref f_law_draws))) (l_law_draws : K.lookup f_law_draws = some ⟨oc_law_draws, od_law_draws, .func (PySem.W.fnOf "_law_draws" "_law_draws" (defArgs s_law_draws) (defBody s_law_draws) (defScope s_law_draws) .none kV_law_draws dc_law_draws pm_law_draws an_law_draws cd_law_draws ct_law_draws), sl_law_draws⟩) (c_law_draws : PySem.W.codeIn K cd_law_draws "_law_draws" = true) (k_law_draws : PySem.W.keepIn K (.ref f_law_draws) = true)
    (a_check_world : PySem.W.nsIn K mainGlobals "check_world" = some (some (.ref f_check_world))) (l_check_world : K.lookup f_check_world = some ⟨oc_check_world, od_check_world, .func (PySem.W.fnOf "check_world" "check_world" (defArgs s_check_world) (defBody s_check_world) (defScope s_check_world) .none kV_check_world dc_check_world pm_check_world an_check_world cd_check_world ct_check_world), sl_check_world⟩) (c_check_world : PySem.W.codeIn K cd_check_world "check_world" = true) (k_check_world : PySem.W.keepIn K (.ref f_check_world) = true)
    (a_lowest_ : PySem.W.nsIn K mainGlobals "_lowest" = some (some (.ref f_lowest_))) (l_lowest_ : K.lookup f_lowest_ = some ⟨oc_lowest_, od_lowest_, .func (PySem.W.fnOf "_lowest" "_lowest" (defArgs s_lowest_) (defBody s_lowest_) (defScope s_lowest_) .none kV_lowest_ dc_lowest_ pm_lowest_ an_lowest_ cd_lowest_ ct_lowest_), sl_lowest_⟩) (c_lowest_ : PySem.W.codeIn K cd_lowest_ "_lowest" = true) (k_lowest_ : PySem.W.keepIn K (.ref f_lowest_) = true)
    (a_inverse_ : PySem.W.nsIn K mainGlobals "_inverse" = some (some (.ref f_inverse_))) (l_inverse_ : K.lookup f_inverse_ = some ⟨oc_inverse_, od_inverse_, .func (PySem.W.fnOf "_inverse" "_inverse" (defArgs s_inverse_) (defBody s_inverse_) (defScope s_inverse_) .none kV_inverse_ dc_inverse_ pm_inverse_ an_inverse_ cd_inverse_ ct_inverse_), sl_inverse_⟩) (c_inverse_ : PySem.W.codeIn K cd_inverse_ "_inverse" = true) (k_inverse_ : PySem.W.keepIn K (.ref f_inverse_) = true)
    (a_number : PySem.W.nsIn K mainGlobals "number" = some (some (.ref f_number))) (l_number : K.lookup f_number = some ⟨oc_number, od_number, .func (PySem.W.fnOf "number" "number" (defArgs s_number) (defBody s_number) (defScope s_number) (.ref dT_number) kV_number dc_number pm_number an_number cd_number ct_number), sl_number⟩) (c_number : PySem.W.codeIn K cd_number "number" = true) (k_number : PySem.W.keepIn K (.ref f_number) = true)
    (a_law_lowest : PySem.W.nsIn K mainGlobals "_law_lowest" = some (some (.ref f_law_lowest))) (l_law_lowest : K.lookup f_law_lowest = some ⟨oc_law_lowest, od_law_lowest, .func (PySem.W.fnOf "_law_lowest" "_law_lowest" (defArgs s_law_lowest) (defBody s_law_lowest) (defScope s_law_lowest) .none kV_law_lowest dc_law_lowest pm_law_lowest an_law_lowest cd_law_lowest ct_law_lowest), sl_law_lowest⟩) (c_law_lowest : PySem.W.codeIn K cd_law_lowest "_law_lowest" = true) (k_law_lowest : PySem.W.keepIn K (.ref f_law_lowest) = true)
    (a_law_made : PySem.W.nsIn K mainGlobals "_law_made" = some (some (.ref f_law_made))) (l_law_made : K.lookup f_law_made = some ⟨oc_law_made, od_law_made, .func (PySem.W.fnOf "_law_made" "_law_made" (defArgs s_law_made) (defBody s_law_made) (defScope s_law_made) .none kV_law_made dc_law_made pm_law_made an_law_made cd_law_made ct_law_made), sl_law_made⟩) (c_law_made : PySem.W.codeIn K cd_law_made "_law_made" = true) (k_law_made : PySem.W.keepIn K (.ref f_law_made) = true)
    (a_law_world : PySem.W.nsIn K mainGlobals "_law_world" = some (some (.ref f_law_world))) (l_law_world : K.lookup f_law_world = some ⟨oc_law_world, od_law_world, .func (PySem.W.fnOf "_law_world" "_law_world" (defArgs s_law_world) (defBody s_law_world) (defScope s_law_world) .none kV_law_world dc_law_world pm_law_world an_law_world cd_law_world ct_law_world), sl_law_world⟩) (c_law_world : PySem.W.codeIn K cd_law_world "_law_world" = true) (k_law_world : PySem.W.keepIn K (.ref f_law_world) = true)
    (a_is_poly : PySem.W.nsIn K mainGlobals "is_poly" = some (some (.ref f_is_poly))) (l_is_poly : K.lookup f_is_poly = some ⟨oc_is_poly, od_is_poly, .func (PySem.W.fnOf "is_poly" "is_poly" (defArgs s_is_poly) (defBody s_is_poly) (defScope s_is_poly) .none kV_is_poly dc_is_poly pm_is_poly an_is_poly cd_is_poly ct_is_poly), sl_is_poly⟩) (c_is_poly : PySem.W.codeIn K cd_is_poly "is_poly" = true) (k_is_poly : PySem.W.keepIn K (.ref f_is_poly) = true)
    (a_check_poly : PySem.W.nsIn K mainGlobals "check_poly" = some (some (.ref f_check_poly))) (l_check_poly : K.lookup f_check_poly = some ⟨oc_check_poly, od_check_poly, .func (PySem.W.fnOf "check_poly" "check_poly" (defArgs s_check_poly) (defBody s_check_poly) (defScope s_check_poly) .none kV_check_poly dc_check_poly pm_check_poly an_check_poly cd_check_poly ct_check_poly), sl_check_poly⟩) (c_check_poly : PySem.W.codeIn K cd_check_poly "check_poly" = true) (k_check_poly : PySem.W.keepIn K (.ref f_check_poly) = true)
    (a_part_ : PySem.W.nsIn K mainGlobals "_part" = some (some (.ref f_part_))) (l_part_ : K.lookup f_part_ = some ⟨oc_part_, od_part_, .func (PySem.W.fnOf "_part" "_part" (defArgs s_part_) (defBody s_part_) (defScope s_part_) .none kV_part_ dc_part_ pm_part_ an_part_ cd_part_ ct_part_), sl_part_⟩) (c_part_ : PySem.W.codeIn K cd_part_ "_part" = true) (k_part_ : PySem.W.keepIn K (.ref f_part_) = true)
    (a_trimmed_ : PySem.W.nsIn K mainGlobals "_trimmed" = some (some (.ref f_trimmed_))) (l_trimmed_ : K.lookup f_trimmed_ = some ⟨oc_trimmed_, od_trimmed_, .func (PySem.W.fnOf "_trimmed" "_trimmed" (defArgs s_trimmed_) (defBody s_trimmed_) (defScope s_trimmed_) .none kV_trimmed_ dc_trimmed_ pm_trimmed_ an_trimmed_ cd_trimmed_ ct_trimmed_), sl_trimmed_⟩) (c_trimmed_ : PySem.W.codeIn K cd_trimmed_ "_trimmed" = true) (k_trimmed_ : PySem.W.keepIn K (.ref f_trimmed_) = true)
    (a_combined_ : PySem.W.nsIn K mainGlobals "_combined" = some (some (.ref f_combined_))) (l_combined_ : K.lookup f_combined_ = some ⟨oc_combined_, od_combined_, .func (PySem.W.fnOf "_combined" "_combined" (defArgs s_combined_) (defBody s_combined_) (defScope s_combined_) .none kV_combined_ dc_combined_ pm_combined_ an_combined_ cd_combined_ ct_combined_), sl_combined_⟩) (c_combined_ : PySem.W.codeIn K cd_combined_ "_combined" = true) (k_combined_ : PySem.W.keepIn K (.ref f_combined_) = true)
    (a_added : PySem.W.nsIn K mainGlobals "added" = some (some (.ref f_added))) (l_added : K.lookup f_added = some ⟨oc_added, od_added, .func (PySem.W.fnOf "added" "added" (defArgs s_added) (defBody s_added) (defScope s_added) .none kV_added dc_added pm_added an_added cd_added ct_added), sl_added⟩) (c_added : PySem.W.codeIn K cd_added "added" = true) (k_added : PySem.W.keepIn K (.ref f_added) = true)
    (a_subtracted : PySem.W.nsIn K mainGlobals "subtracted" = some (some (.ref f_subtracted))) (l_subtracted : K.lookup f_subtracted = some ⟨oc_subtracted, od_subtracted, .func (PySem.W.fnOf "subtracted" "subtracted" (defArgs s_subtracted) (defBody s_subtracted) (defScope s_subtracted) .none kV_subtracted dc_subtracted pm_subtracted an_subtracted cd_subtracted ct_subtracted), sl_subtracted⟩) (c_subtracted : PySem.W.codeIn K cd_subtracted "subtracted" = true) (k_subtracted : PySem.W.keepIn K (.ref f_subtracted) = true)
    (a_multiplied_polys : PySem.W.nsIn K mainGlobals "multiplied_polys" = some (some (.ref f_multiplied_polys))) (l_multiplied_polys : K.lookup f_multiplied_polys = some ⟨oc_multiplied_polys, od_multiplied_polys, .func (PySem.W.fnOf "multiplied_polys" "multiplied_polys" (defArgs s_multiplied_polys) (defBody s_multiplied_polys) (defScope s_multiplied_polys) .none kV_multiplied_polys dc_multiplied_polys pm_multiplied_polys an_multiplied_polys cd_multiplied_polys ct_multiplied_polys), sl_multiplied_polys⟩) (c_multiplied_polys : PySem.W.codeIn K cd_multiplied_polys "multiplied_polys" = true) (k_multiplied_polys : PySem.W.keepIn K (.ref f_multiplied_polys) = true)
    (a_split_off_ : PySem.W.nsIn K mainGlobals "_split_off" = some (some (.ref f_split_off_))) (l_split_off_ : K.lookup f_split_off_ = some ⟨oc_split_off_, od_split_off_, .func (PySem.W.fnOf "_split_off" "_split_off" (defArgs s_split_off_) (defBody s_split_off_) (defScope s_split_off_) .none kV_split_off_ dc_split_off_ pm_split_off_ an_split_off_ cd_split_off_ ct_split_off_), sl_split_off_⟩) (c_split_off_ : PySem.W.codeIn K cd_split_off_ "_split_off" = true) (k_split_off_ : PySem.W.keepIn K (.ref f_split_off_) = true)
    (a_value_at : PySem.W.nsIn K mainGlobals "value_at" = some (some (.ref f_value_at))) (l_value_at : K.lookup f_value_at = some ⟨oc_value_at, od_value_at, .func (PySem.W.fnOf "value_at" "value_at" (defArgs s_value_at) (defBody s_value_at) (defScope s_value_at) .none kV_value_at dc_value_at pm_value_at an_value_at cd_value_at ct_value_at), sl_value_at⟩) (c_value_at : PySem.W.codeIn K cd_value_at "value_at" = true) (k_value_at : PySem.W.keepIn K (.ref f_value_at) = true)
    (a_value : PySem.W.nsIn K mainGlobals "value" = some (some (.ref f_value))) (l_value : K.lookup f_value = some ⟨oc_value, od_value, .func (PySem.W.fnOf "value" "value" (defArgs s_value) (defBody s_value) (defScope s_value) .none kV_value dc_value pm_value an_value cd_value ct_value), sl_value⟩) (c_value : PySem.W.codeIn K cd_value "value" = true) (k_value : PySem.W.keepIn K (.ref f_value) = true)
    (a_law_cut : PySem.W.nsIn K mainGlobals "_law_cut" = some (some (.ref f_law_cut))) (l_law_cut : K.lookup f_law_cut = some ⟨oc_law_cut, od_law_cut, .func (PySem.W.fnOf "_law_cut" "_law_cut" (defArgs s_law_cut) (defBody s_law_cut) (defScope s_law_cut) .none kV_law_cut dc_law_cut pm_law_cut an_law_cut cd_law_cut ct_law_cut), sl_law_cut⟩) (c_law_cut : PySem.W.codeIn K cd_law_cut "_law_cut" = true) (k_law_cut : PySem.W.keepIn K (.ref f_law_cut) = true)
    (a_law_poly : PySem.W.nsIn K mainGlobals "_law_poly" = some (some (.ref f_law_poly))) (l_law_poly : K.lookup f_law_poly = some ⟨oc_law_poly, od_law_poly, .func (PySem.W.fnOf "_law_poly" "_law_poly" (defArgs s_law_poly) (defBody s_law_poly) (defScope s_law_poly) .none kV_law_poly dc_law_poly pm_law_poly an_law_poly cd_law_poly ct_law_poly), sl_law_poly⟩) (c_law_poly : PySem.W.codeIn K cd_law_poly "_law_poly" = true) (k_law_poly : PySem.W.keepIn K (.ref f_law_poly) = true)
    (a_law_value : PySem.W.nsIn K mainGlobals "_law_value" = some (some (.ref f_law_value))) (l_law_value : K.lookup f_law_value = some ⟨oc_law_value, od_law_value, .func (PySem.W.fnOf "_law_value" "_law_value" (defArgs s_law_value) (defBody s_law_value) (defScope s_law_value) .none kV_law_value dc_law_value pm_law_value an_law_value cd_law_value ct_law_value), sl_law_value⟩) (c_law_value : PySem.W.codeIn K cd_law_value "_law_value" = true) (k_law_value : PySem.W.keepIn K (.ref f_law_value) = true)
    (a_law_times : PySem.W.nsIn K mainGlobals "_law_times" = some (some (.ref f_law_times))) (l_law_times : K.lookup f_law_times = some ⟨oc_law_times, od_law_times, .func (PySem.W.fnOf "_law_times" "_law_times" (defArgs s_law_times) (defBody s_law_times) (defScope s_law_times) .none kV_law_times dc_law_times pm_law_times an_law_times cd_law_times ct_law_times), sl_law_times⟩) (c_law_times : PySem.W.codeIn K cd_law_times "_law_times" = true) (k_law_times : PySem.W.keepIn K (.ref f_law_times) = true)
    (a_law_plus : PySem.W.nsIn K mainGlobals "_law_plus" = some (some (.ref f_law_plus))) (l_law_plus : K.lookup f_law_plus = some ⟨oc_law_plus, od_law_plus, .func (PySem.W.fnOf "_law_plus" "_law_plus" (defArgs s_law_plus) (defBody s_law_plus) (defScope s_law_plus) .none kV_law_plus dc_law_plus pm_law_plus an_law_plus cd_law_plus ct_law_plus), sl_law_plus⟩) (c_law_plus : PySem.W.codeIn K cd_law_plus "_law_plus" = true) (k_law_plus : PySem.W.keepIn K (.ref f_law_plus) = true)
    (a_law_told : PySem.W.nsIn K mainGlobals "_law_told" = some (some (.ref f_law_told))) (l_law_told : K.lookup f_law_told = some ⟨oc_law_told, od_law_told, .func (PySem.W.fnOf "_law_told" "_law_told" (defArgs s_law_told) (defBody s_law_told) (defScope s_law_told) .none kV_law_told dc_law_told pm_law_told an_law_told cd_law_told ct_law_told), sl_law_told⟩) (c_law_told : PySem.W.codeIn K cd_law_told "_law_told" = true) (k_law_told : PySem.W.keepIn K (.ref f_law_told) = true)
    (a_law : PySem.W.nsIn K mainGlobals "law" = some (some (.ref f_law))) (l_law : K.lookup f_law = some ⟨oc_law, od_law, .func (PySem.W.fnOf "law" "law" (defArgs s_law) (defBody s_law) (defScope s_law) .none kV_law dc_law pm_law an_law cd_law ct_law), sl_law⟩) (c_law : PySem.W.codeIn K cd_law "law" = true) (k_law : PySem.W.keepIn K (.ref f_law) = true)
    (zn_int : PySem.W.nsIn K mainGlobals "int" = some none)
    (zn_range : PySem.W.nsIn K mainGlobals "range" = some none)
    (zn_abs : PySem.W.nsIn K mainGlobals "abs" = some none)
    (zn_len : PySem.W.nsIn K mainGlobals "len" = some none)
    (zn_tuple : PySem.W.nsIn K mainGlobals "tuple" = some none)
    (zn_max : PySem.W.nsIn K mainGlobals "max" = some none)
    (zn_enumerate : PySem.W.nsIn K mainGlobals "enumerate" = some none)
    (zn_reversed : PySem.W.nsIn K mainGlobals "reversed" = some none)
    (zn_repr : PySem.W.nsIn K mainGlobals "repr" = some none)
    (zn_isinstance : PySem.W.nsIn K mainGlobals "isinstance" = some none)
    (n_gcd : PySem.W.nsIn K mainGlobals "gcd" = some (some (.builtin "math.gcd")))
    (n_PRIMES : PySem.W.nsIn K mainGlobals "PRIMES" = some (some (.ref aP)))
    (l_PRIMES : K.lookup aP = some ⟨.type "tuple", ddP, .seq #[.int 2 u2, .int 3 u3, .int 5 u5, .int 7 u7, .int 11 u11, .int 13 u13, .int 17 u17, .int 19 u19, .int 23 u23, .int 29 u29, .int 31 u31] nP, slP⟩)
    (n_NotWorld : PySem.W.nsIn K mainGlobals "NotWorld" = some (some (.ref CW)))
    (x_NotWorld : PySem.W.excIn K CW [.type "ValueError", .type "Exception", .type "BaseException", .type "object"] "ValueError.__new__" = true)
    (kc_NotWorld : PySem.W.keepIn K (.ref CW) = true)
    (bc_NotWorld : PySem.W.subIn K (.ref CW) (.type "BaseException") = some true)
    (tc_NotWorld : PySem.W.typeIn K (.ref CW) = some (.type "type"))
    (n_NotPoly : PySem.W.nsIn K mainGlobals "NotPoly" = some (some (.ref CP)))
    (x_NotPoly : PySem.W.excIn K CP [.type "ValueError", .type "Exception", .type "BaseException", .type "object"] "ValueError.__new__" = true)
    (kc_NotPoly : PySem.W.keepIn K (.ref CP) = true)
    (bc_NotPoly : PySem.W.subIn K (.ref CP) (.type "BaseException") = some true)
    (tc_NotPoly : PySem.W.typeIn K (.ref CP) = some (.type "type"))
    (n_BadNumber : PySem.W.nsIn K mainGlobals "BadNumber" = some (some (.ref CB)))
    (x_BadNumber : PySem.W.excIn K CB [.type "ValueError", .type "Exception", .type "BaseException", .type "object"] "ValueError.__new__" = true)
    (kc_BadNumber : PySem.W.keepIn K (.ref CB) = true)
    (bc_BadNumber : PySem.W.subIn K (.ref CB) (.type "BaseException") = some true)
    (tc_BadNumber : PySem.W.typeIn K (.ref CB) = some (.type "type"))
    (n_TooLarge : PySem.W.nsIn K mainGlobals "TooLarge" = some (some (.ref CT)))
    (x_TooLarge : PySem.W.excIn K CT [.type "ValueError", .type "Exception", .type "BaseException", .type "object"] "ValueError.__new__" = true)
    (kc_TooLarge : PySem.W.keepIn K (.ref CT) = true)
    (bc_TooLarge : PySem.W.subIn K (.ref CT) (.type "BaseException") = some true)
    (tc_TooLarge : PySem.W.typeIn K (.ref CT) = some (.type "type"))
    (ld_number : K.lookup dT_number = some ⟨.type "tuple", dd_number, .seq #[.int 1 un] nn_number, sd_number⟩)
    (n_MOST_PARTS : PySem.W.nsIn K mainGlobals "MOST_PARTS" = some (some (.int 200 tm_MOST_PARTS)))
    (n_WorthError : PySem.W.nsIn K mainGlobals "WorthError" = some (some (.ref CE)))
    (ebc : PySem.W.subIn K (.ref CE) (.type "BaseException") = some true)
    (ehd : PySem.W.hasDictIn K CE = true)
    (ety : PySem.W.typeIn K (.ref CE) = some (.type "type"))
    (hn_cls : PySem.W.specialIn K (.builtin "object.__class__") "__get__" = some (some (.builtin "getset_descriptor.__get__")))
    (ht_cls : PySem.W.takesIn K (.builtin "object.__class__") = some true)
    (hg_NotPoly : PySem.W.findIn K (.ref CP) "__getattribute__" = some (some (.builtin "BaseException.__getattribute__")))
    (hk_NotPoly : PySem.W.findIn K (.ref CP) "__getattr__" = some none)
    (hd_NotPoly : PySem.W.hasDictIn K CP = true)
    (ha_NotPoly : PySem.W.findIn K (.ref CP) "__class__" = some (some (.builtin "object.__class__")))
    (hm_NotPoly : PySem.W.mroIn K CP (.type "object") = some true)
    (sE_p : PySem.W.subIn K (.ref CP) (.ref CE) = some true)
    (hg_NotWorld : PySem.W.findIn K (.ref CW) "__getattribute__" = some (some (.builtin "BaseException.__getattribute__")))
    (hk_NotWorld : PySem.W.findIn K (.ref CW) "__getattr__" = some none)
    (hd_NotWorld : PySem.W.hasDictIn K CW = true)
    (ha_NotWorld : PySem.W.findIn K (.ref CW) "__class__" = some (some (.builtin "object.__class__")))
    (hm_NotWorld : PySem.W.mroIn K CW (.type "object") = some true)
    (sE_w : PySem.W.subIn K (.ref CW) (.ref CE) = some true)
    (hg_TooLarge : PySem.W.findIn K (.ref CT) "__getattribute__" = some (some (.builtin "BaseException.__getattribute__")))
    (hk_TooLarge : PySem.W.findIn K (.ref CT) "__getattr__" = some none)
    (hd_TooLarge : PySem.W.hasDictIn K CT = true)
    (ha_TooLarge : PySem.W.findIn K (.ref CT) "__class__" = some (some (.builtin "object.__class__")))
    (hm_TooLarge : PySem.W.mroIn K CT (.type "object") = some true)
    (sE_l : PySem.W.subIn K (.ref CT) (.ref CE) = some true)
    (t_pp : PySem.W.kitOne K (.ref CP) (.ref CP) = some true)
    (t_pw : PySem.W.kitOne K (.ref CP) (.ref CW) = some false)
    (t_pl : PySem.W.kitOne K (.ref CP) (.ref CT) = some false)
    (t_wp : PySem.W.kitOne K (.ref CW) (.ref CP) = some false)
    (t_ww : PySem.W.kitOne K (.ref CW) (.ref CW) = some true)
    (t_wl : PySem.W.kitOne K (.ref CW) (.ref CT) = some false)
    (t_lp : PySem.W.kitOne K (.ref CT) (.ref CP) = some false)
    (t_lw : PySem.W.kitOne K (.ref CT) (.ref CW) = some false)
    (t_ll : PySem.W.kitOne K (.ref CT) (.ref CT) = some true)
    : ∃ fd : FuncData, (∀ (s : Shared) (v : Value), BindsTo s fd ⟨[v], []⟩ [("script", v)]) ∧ ∀ base : Heap, K.In base → base.Ns mainGlobals mg → FnG P w K mg base 6 fa fd ["script"] (spLaw K) := by
  have e := hfa.symm.trans (PySem.W.mg_of X G a_law)
  cases e
  have F_is_world := fun_mk (st := s_is_world) l_is_world c_is_world k_is_world
  have g_is_world := PySem.W.mg_of X G a_is_world
  have b_is_world := F_is_world.binds (ps := ["world"]) fun _ _ _ _ _ _ us hl => match us, hl with | [_], _ => rfl
  have F_law_plain := fun_mk (st := s_law_plain) l_law_plain c_law_plain k_law_plain
  have g_law_plain := PySem.W.mg_of X G a_law_plain
  have b_law_plain := F_law_plain.binds (ps := ["cell"]) fun _ _ _ _ _ _ us hl => match us, hl with | [_], _ => rfl
  have F_law_next := fun_mk (st := s_law_next) l_law_next c_law_next k_law_next
  have g_law_next := PySem.W.mg_of X G a_law_next
  have b_law_next := F_law_next.binds (ps := ["draws"]) fun _ _ _ _ _ _ us hl => match us, hl with | [_], _ => rfl
  have F_law_draws := fun_mk (st := s_law_draws) l_law_draws c_law_draws k_law_draws
  have g_law_draws := PySem.W.mg_of X G a_law_draws
  have b_law_draws := F_law_draws.binds (ps := ["script"]) fun _ _ _ _ _ _ us hl => match us, hl with | [_], _ => rfl
  have F_check_world := fun_mk (st := s_check_world) l_check_world c_check_world k_check_world
  have g_check_world := PySem.W.mg_of X G a_check_world
  have b_check_world := F_check_world.binds (ps := ["world"]) fun _ _ _ _ _ _ us hl => match us, hl with | [_], _ => rfl
  have F_lowest_ := fun_mk (st := s_lowest_) l_lowest_ c_lowest_ k_lowest_
  have g_lowest_ := PySem.W.mg_of X G a_lowest_
  have b_lowest_ := F_lowest_.binds (ps := ["a", "b"]) fun _ _ _ _ _ _ us hl => match us, hl with | [_, _], _ => rfl
  have F_inverse_ := fun_mk (st := s_inverse_) l_inverse_ c_inverse_ k_inverse_
  have g_inverse_ := PySem.W.mg_of X G a_inverse_
  have b_inverse_ := F_inverse_.binds (ps := ["p", "b"]) fun _ _ _ _ _ _ us hl => match us, hl with | [_, _], _ => rfl
  have F_number : FunA K "number" "number" s_number f_number _ := ⟨⟨_, _, _, _, _, _, _, _, _, _, rfl, l_number, c_number⟩, k_number⟩
  have g_number := PySem.W.mg_of X G a_number
  have F_law_lowest := fun_mk (st := s_law_lowest) l_law_lowest c_law_lowest k_law_lowest
  have g_law_lowest := PySem.W.mg_of X G a_law_lowest
  have b_law_lowest := F_law_lowest.binds (ps := ["a", "b"]) fun _ _ _ _ _ _ us hl => match us, hl with | [_, _], _ => rfl
  have F_law_made := fun_mk (st := s_law_made) l_law_made c_law_made k_law_made
  have g_law_made := PySem.W.mg_of X G a_law_made
  have b_law_made := F_law_made.binds (ps := ["p", "a", "b"]) fun _ _ _ _ _ _ us hl => match us, hl with | [_, _, _], _ => rfl
  have F_law_world := fun_mk (st := s_law_world) l_law_world c_law_world k_law_world
  have g_law_world := PySem.W.mg_of X G a_law_world
  have b_law_world := F_law_world.binds (ps := ["draws"]) fun _ _ _ _ _ _ us hl => match us, hl with | [_], _ => rfl
  have F_is_poly := fun_mk (st := s_is_poly) l_is_poly c_is_poly k_is_poly
  have g_is_poly := PySem.W.mg_of X G a_is_poly
  have b_is_poly := F_is_poly.binds (ps := ["poly"]) fun _ _ _ _ _ _ us hl => match us, hl with | [_], _ => rfl
  have F_check_poly := fun_mk (st := s_check_poly) l_check_poly c_check_poly k_check_poly
  have g_check_poly := PySem.W.mg_of X G a_check_poly
  have b_check_poly := F_check_poly.binds (ps := ["poly"]) fun _ _ _ _ _ _ us hl => match us, hl with | [_], _ => rfl
  have F_part_ := fun_mk (st := s_part_) l_part_ c_part_ k_part_
  have g_part_ := PySem.W.mg_of X G a_part_
  have b_part_ := F_part_.binds (ps := ["poly", "k"]) fun _ _ _ _ _ _ us hl => match us, hl with | [_, _], _ => rfl
  have F_trimmed_ := fun_mk (st := s_trimmed_) l_trimmed_ c_trimmed_ k_trimmed_
  have g_trimmed_ := PySem.W.mg_of X G a_trimmed_
  have b_trimmed_ := F_trimmed_.binds (ps := ["parts"]) fun _ _ _ _ _ _ us hl => match us, hl with | [_], _ => rfl
  have F_combined_ := fun_mk (st := s_combined_) l_combined_ c_combined_ k_combined_
  have g_combined_ := PySem.W.mg_of X G a_combined_
  have b_combined_ := F_combined_.binds (ps := ["one", "other", "factor"]) fun _ _ _ _ _ _ us hl => match us, hl with | [_, _, _], _ => rfl
  have F_added := fun_mk (st := s_added) l_added c_added k_added
  have g_added := PySem.W.mg_of X G a_added
  have b_added := F_added.binds (ps := ["one", "other"]) fun _ _ _ _ _ _ us hl => match us, hl with | [_, _], _ => rfl
  have F_subtracted := fun_mk (st := s_subtracted) l_subtracted c_subtracted k_subtracted
  have g_subtracted := PySem.W.mg_of X G a_subtracted
  have b_subtracted := F_subtracted.binds (ps := ["one", "other"]) fun _ _ _ _ _ _ us hl => match us, hl with | [_, _], _ => rfl
  have F_multiplied_polys := fun_mk (st := s_multiplied_polys) l_multiplied_polys c_multiplied_polys k_multiplied_polys
  have g_multiplied_polys := PySem.W.mg_of X G a_multiplied_polys
  have b_multiplied_polys := F_multiplied_polys.binds (ps := ["one", "other"]) fun _ _ _ _ _ _ us hl => match us, hl with | [_, _], _ => rfl
  have F_split_off_ := fun_mk (st := s_split_off_) l_split_off_ c_split_off_ k_split_off_
  have g_split_off_ := PySem.W.mg_of X G a_split_off_
  have b_split_off_ := F_split_off_.binds (ps := ["parts", "x"]) fun _ _ _ _ _ _ us hl => match us, hl with | [_, _], _ => rfl
  have F_value_at := fun_mk (st := s_value_at) l_value_at c_value_at k_value_at
  have g_value_at := PySem.W.mg_of X G a_value_at
  have b_value_at := F_value_at.binds (ps := ["poly", "x"]) fun _ _ _ _ _ _ us hl => match us, hl with | [_, _], _ => rfl
  have F_value := fun_mk (st := s_value) l_value c_value k_value
  have g_value := PySem.W.mg_of X G a_value
  have b_value := F_value.binds (ps := ["world", "poly"]) fun _ _ _ _ _ _ us hl => match us, hl with | [_, _], _ => rfl
  have F_law_cut := fun_mk (st := s_law_cut) l_law_cut c_law_cut k_law_cut
  have g_law_cut := PySem.W.mg_of X G a_law_cut
  have b_law_cut := F_law_cut.binds (ps := ["parts"]) fun _ _ _ _ _ _ us hl => match us, hl with | [_], _ => rfl
  have F_law_poly := fun_mk (st := s_law_poly) l_law_poly c_law_poly k_law_poly
  have g_law_poly := PySem.W.mg_of X G a_law_poly
  have b_law_poly := F_law_poly.binds (ps := ["draws", "most"]) fun _ _ _ _ _ _ us hl => match us, hl with | [_, _], _ => rfl
  have F_law_value := fun_mk (st := s_law_value) l_law_value c_law_value k_law_value
  have g_law_value := PySem.W.mg_of X G a_law_value
  have b_law_value := F_law_value.binds (ps := ["poly", "x"]) fun _ _ _ _ _ _ us hl => match us, hl with | [_, _], _ => rfl
  have F_law_times := fun_mk (st := s_law_times) l_law_times c_law_times k_law_times
  have g_law_times := PySem.W.mg_of X G a_law_times
  have b_law_times := F_law_times.binds (ps := ["one", "other"]) fun _ _ _ _ _ _ us hl => match us, hl with | [_, _], _ => rfl
  have F_law_plus := fun_mk (st := s_law_plus) l_law_plus c_law_plus k_law_plus
  have g_law_plus := PySem.W.mg_of X G a_law_plus
  have b_law_plus := F_law_plus.binds (ps := ["one", "other"]) fun _ _ _ _ _ _ us hl => match us, hl with | [_, _], _ => rfl
  have F_law_told := fun_mk (st := s_law_told) l_law_told c_law_told k_law_told
  have g_law_told := PySem.W.mg_of X G a_law_told
  have b_law_told := F_law_told.binds (ps := ["way", "one", "other"]) fun _ _ _ _ _ _ us hl => match us, hl with | [_, _, _], _ => rfl
  have F_law := fun_mk (st := s_law) l_law c_law k_law
  have g_law := PySem.W.mg_of X G a_law
  have b_law := F_law.binds (ps := ["script"]) fun _ _ _ _ _ _ us hl => match us, hl with | [_], _ => rfl
  have z_int := PySem.W.mg_none_of X G zn_int
  have z_range := PySem.W.mg_none_of X G zn_range
  have z_abs := PySem.W.mg_none_of X G zn_abs
  have z_len := PySem.W.mg_none_of X G zn_len
  have z_tuple := PySem.W.mg_none_of X G zn_tuple
  have z_max := PySem.W.mg_none_of X G zn_max
  have z_enumerate := PySem.W.mg_none_of X G zn_enumerate
  have z_reversed := PySem.W.mg_none_of X G zn_reversed
  have z_repr := PySem.W.mg_none_of X G zn_repr
  have z_isinstance := PySem.W.mg_none_of X G zn_isinstance
  have m_gcd := PySem.W.mg_of X G n_gcd
  have m_PRIMES := PySem.W.mg_of X G n_PRIMES
  have tP : ∀ H, SqT K H aP (primes.map V.int) := fun H => .inr ⟨_, _, _, l_PRIMES, rfl, rfl, (by show 11 ≤ sizeLine; decide), .cons ⟨_, rfl⟩ (.cons ⟨_, rfl⟩ (.cons ⟨_, rfl⟩ (.cons ⟨_, rfl⟩ (.cons ⟨_, rfl⟩ (.cons ⟨_, rfl⟩ (.cons ⟨_, rfl⟩ (.cons ⟨_, rfl⟩ (.cons ⟨_, rfl⟩ (.cons ⟨_, rfl⟩ (.cons ⟨_, rfl⟩ (.nil)))))))))))⟩
  have E_NotWorld : ErrC K mg "NotWorld" CW := ⟨PySem.W.mg_of X G n_NotWorld, x_NotWorld, kc_NotWorld, bc_NotWorld, tc_NotWorld⟩
  have E_NotPoly : ErrC K mg "NotPoly" CP := ⟨PySem.W.mg_of X G n_NotPoly, x_NotPoly, kc_NotPoly, bc_NotPoly, tc_NotPoly⟩
  have E_BadNumber : ErrC K mg "BadNumber" CB := ⟨PySem.W.mg_of X G n_BadNumber, x_BadNumber, kc_BadNumber, bc_BadNumber, tc_BadNumber⟩
  have E_TooLarge : ErrC K mg "TooLarge" CT := ⟨PySem.W.mg_of X G n_TooLarge, x_TooLarge, kc_TooLarge, bc_TooLarge, tc_TooLarge⟩
  have b_number : Binds K (PySem.W.fnOf "number" "number" (defArgs s_number) (defBody s_number) (defScope s_number) (.ref dT_number) kV_number dc_number pm_number an_number cd_number ct_number) ["world", "a", "b"] [] := by
        obtain ⟨ds, hv, hb⟩ := FunD.binds1 (K := K) (kws := []) (dvs := [.int 1]) (ps := ["world", "a", "b"]) ⟨⟨_, _, _, _, _, _, _, _, _, _, rfl, l_number, c_number, .inr ⟨(fun z => nomatch z), dT_number, _, [_], _, rfl, ld_number, rfl, .cons ⟨_, rfl⟩ .nil⟩, .inl rfl⟩, k_number⟩ 3 1 (fun z => nomatch z) rfl
          (fun T kV doc pm an cdv ct us its hl hl2 => match us, its, hl, hl2 with | [_, _, _], [_], _, _ => ⟨_, rfl, rfl⟩)
        cases hv
        exact hb
  have m_MOST_PARTS := PySem.W.mg_of X G n_MOST_PARTS
  have I_NotPoly : ExcC K CP := ⟨hg_NotPoly, hk_NotPoly, bc_NotPoly, hd_NotPoly, ha_NotPoly, hn_cls, ht_cls, hm_NotPoly⟩
  have I_NotWorld : ExcC K CW := ⟨hg_NotWorld, hk_NotWorld, bc_NotWorld, hd_NotWorld, ha_NotWorld, hn_cls, ht_cls, hm_NotWorld⟩
  have I_TooLarge : ExcC K CT := ⟨hg_TooLarge, hk_TooLarge, bc_TooLarge, hd_TooLarge, ha_TooLarge, hn_cls, ht_cls, hm_TooLarge⟩
  have T_told : ErrT K mg CE CP CW CT := ⟨PySem.W.mg_of X G n_WorthError, ebc, ehd, ety, PySem.W.mg_of X G n_NotPoly, I_NotPoly, sE_p, PySem.W.mg_of X G n_NotWorld, I_NotWorld, sE_w, PySem.W.mg_of X G n_TooLarge, I_TooLarge, sE_l, t_pp, t_pw, t_pl, t_wp, t_ww, t_wl, t_lp, t_lw, t_ll⟩
  obtain ⟨un2, b_number2⟩ : ∃ t, Binds K (PySem.W.fnOf "number" "number" (defArgs s_number) (defBody s_number) (defScope s_number) (.ref dT_number) kV_number dc_number pm_number an_number cd_number ct_number) ["world", "a", "b"] [.int 1 t] := by
        obtain ⟨ds, hv, hb⟩ := FunD.binds1 (K := K) (kws := []) (dvs := [.int 1]) (ps := ["world", "a", "b"]) ⟨⟨_, _, _, _, _, _, _, _, _, _, rfl, l_number, c_number, .inr ⟨(fun z => nomatch z), dT_number, _, [_], _, rfl, ld_number, rfl, .cons ⟨_, rfl⟩ .nil⟩, .inl rfl⟩, k_number⟩ 2 0 (fun z => nomatch z) rfl
          (fun T kV doc pm an cdv ct us its hl hl2 => match us, its, hl, hl2 with | [_, _], [_], _, _ => ⟨_, rfl, rfl⟩)
        cases hv with
        | cons r1 r2 =>
          cases r2
          obtain ⟨t, rfl⟩ := r1
          exact ⟨t, hb⟩
  refine ⟨PySem.W.fnOf "law" "law" (defArgs s_law) (defBody s_law) (defScope s_law) .none kV_law dc_law pm_law an_law cd_law ct_law, fun s v => .of_eq rfl, fun base _ _ => ?_⟩
  have G_is_world := ok_is_world (P := P) (w := w) (mg := mg) (base := base) (F := F_is_world) (m_PRIMES := m_PRIMES) (tP := tP)
  have G_law_plain := ok_plain (P := P) (w := w) (mg := mg) (base := base) (F := F_law_plain)
  have G_law_next := ok_next (P := P) (w := w) (mg := mg) (base := base) (F := F_law_next)
  have G_law_draws := ok_draws (P := P) (w := w) (mg := mg) (base := base) (F := F_law_draws) (z_range := z_range) (z_int := z_int) (G_law_plain := G_law_plain) (g_law_plain := g_law_plain) (k_law_plain := k_law_plain) (b_law_plain := b_law_plain)
  have G_check_world := ok_check_world (P := P) (w := w) (mg := mg) (base := base) (F := F_check_world) (T := E_NotWorld) (G_is_world := G_is_world) (g_is_world := g_is_world) (k_is_world := k_is_world) (b_is_world := b_is_world)
  have G_lowest_ := ok_lowest (P := P) (w := w) (mg := mg) (base := base) (F := F_lowest_) (m_gcd := m_gcd)
  have G_inverse_ := ok_inverse (P := P) (w := w) (mg := mg) (base := base) (F := F_inverse_)
  have G_number := ok_number (P := P) (w := w) (mg := mg) (base := base) (F := F_number) (T := E_BadNumber) (G_check_world := G_check_world) (g_check_world := g_check_world) (k_check_world := k_check_world) (b_check_world := b_check_world) (G_inverse_ := G_inverse_) (g_inverse_ := g_inverse_) (k_inverse_ := k_inverse_) (b_inverse_ := b_inverse_) (G_lowest_ := G_lowest_) (g_lowest_ := g_lowest_) (k_lowest_ := k_lowest_) (b_lowest_ := b_lowest_)
  have G_law_lowest := ok_law_lowest (P := P) (w := w) (mg := mg) (base := base) (F := F_law_lowest) (z_range := z_range) (z_int := z_int) (z_abs := z_abs)
  have G_law_made := ok_law_made (P := P) (w := w) (mg := mg) (base := base) (F := F_law_made) (z_range := z_range) (z_int := z_int) (G_law_lowest := G_law_lowest) (g_law_lowest := g_law_lowest) (k_law_lowest := k_law_lowest) (b_law_lowest := b_law_lowest)
  have G_law_world := ok_law_world (P := P) (w := w) (mg := mg) (base := base) (F := F_law_world) (z_int := z_int) (G_law_next := G_law_next) (g_law_next := g_law_next) (k_law_next := k_law_next) (b_law_next := b_law_next)
  have G_is_poly := ok_is_poly (P := P) (w := w) (mg := mg) (base := base) (F := F_is_poly) (z_len := z_len) (m_MOST_PARTS := m_MOST_PARTS)
  have G_check_poly := ok_check_poly (P := P) (w := w) (mg := mg) (base := base) (F := F_check_poly) (T := E_NotPoly) (G_is_poly := G_is_poly) (g_is_poly := g_is_poly) (k_is_poly := k_is_poly) (b_is_poly := b_is_poly)
  have G_part_ := ok_part_ (P := P) (w := w) (mg := mg) (base := base) (F := F_part_) (z_len := z_len)
  have G_trimmed_ := ok_trimmed_ (P := P) (w := w) (mg := mg) (base := base) (F := F_trimmed_) (z_len := z_len) (z_tuple := z_tuple)
  have G_combined_ := ok_combined_ (P := P) (w := w) (mg := mg) (base := base) (F := F_combined_) (z_len := z_len) (z_max := z_max) (z_range := z_range) (G_part_ := G_part_) (g_part_ := g_part_) (k_part_ := k_part_) (b_part_ := b_part_) (G_trimmed_ := G_trimmed_) (g_trimmed_ := g_trimmed_) (k_trimmed_ := k_trimmed_) (b_trimmed_ := b_trimmed_)
  have G_added := ok_added (P := P) (w := w) (mg := mg) (base := base) (F := F_added) (G_check_poly := G_check_poly) (g_check_poly := g_check_poly) (k_check_poly := k_check_poly) (b_check_poly := b_check_poly) (G_combined_ := G_combined_) (g_combined_ := g_combined_) (k_combined_ := k_combined_) (b_combined_ := b_combined_)
  have G_subtracted := ok_subtracted (P := P) (w := w) (mg := mg) (base := base) (F := F_subtracted) (G_check_poly := G_check_poly) (g_check_poly := g_check_poly) (k_check_poly := k_check_poly) (b_check_poly := b_check_poly) (G_combined_ := G_combined_) (g_combined_ := g_combined_) (k_combined_ := k_combined_) (b_combined_ := b_combined_)
  have G_multiplied_polys := ok_multiplied_polys (P := P) (w := w) (mg := mg) (base := base) (F := F_multiplied_polys) (z_len := z_len) (z_tuple := z_tuple) (z_enumerate := z_enumerate) (T := E_TooLarge) (m_MOST_PARTS := m_MOST_PARTS) (G_check_poly := G_check_poly) (g_check_poly := g_check_poly) (k_check_poly := k_check_poly) (b_check_poly := b_check_poly)
  have G_split_off_ := ok_split_off_ (P := P) (w := w) (mg := mg) (base := base) (F := F_split_off_) (z_reversed := z_reversed)
  have G_value_at := ok_value_at (P := P) (w := w) (mg := mg) (base := base) (F := F_value_at) (G_check_poly := G_check_poly) (g_check_poly := g_check_poly) (k_check_poly := k_check_poly) (b_check_poly := b_check_poly) (G_split_off_ := G_split_off_) (g_split_off_ := g_split_off_) (k_split_off_ := k_split_off_) (b_split_off_ := b_split_off_)
  have G_value := ok_value (P := P) (w := w) (mg := mg) (base := base) (F := F_value) (G_check_world := G_check_world) (g_check_world := g_check_world) (k_check_world := k_check_world) (b_check_world := b_check_world) (G_number := G_number) (g_number := g_number) (k_number := k_number) (b_number := b_number) (G_value_at := G_value_at) (g_value_at := g_value_at) (k_value_at := k_value_at) (b_value_at := b_value_at) (b_number2 := b_number2)
  have G_law_cut := ok_law_cut (P := P) (w := w) (mg := mg) (base := base) (F := F_law_cut) (z_len := z_len) (z_tuple := z_tuple) (z_range := z_range)
  have G_law_poly := ok_law_poly (P := P) (w := w) (mg := mg) (base := base) (F := F_law_poly) (z_int := z_int) (z_range := z_range) (G_law_next := G_law_next) (g_law_next := g_law_next) (k_law_next := k_law_next) (b_law_next := b_law_next) (G_law_cut := G_law_cut) (g_law_cut := g_law_cut) (k_law_cut := k_law_cut) (b_law_cut := b_law_cut)
  have G_law_value := ok_law_value (P := P) (w := w) (mg := mg) (base := base) (F := F_law_value)
  have G_law_times := ok_law_times (P := P) (w := w) (mg := mg) (base := base) (F := F_law_times) (z_len := z_len) (z_range := z_range) (G_law_cut := G_law_cut) (g_law_cut := g_law_cut) (k_law_cut := k_law_cut) (b_law_cut := b_law_cut)
  have G_law_plus := ok_law_plus (P := P) (w := w) (mg := mg) (base := base) (F := F_law_plus) (z_len := z_len) (z_max := z_max) (z_range := z_range) (G_law_cut := G_law_cut) (g_law_cut := g_law_cut) (k_law_cut := k_law_cut) (b_law_cut := b_law_cut)
  have G_law_told := ok_told4 (P := P) (w := w) (mg := mg) (base := base) (F := F_law_told) (T := T_told) (z_isinstance := z_isinstance) (G_added := G_added) (g_added := g_added) (k_added := k_added) (b_added := b_added) (G_subtracted := G_subtracted) (g_subtracted := g_subtracted) (k_subtracted := k_subtracted) (b_subtracted := b_subtracted) (G_multiplied_polys := G_multiplied_polys) (g_multiplied_polys := g_multiplied_polys) (k_multiplied_polys := k_multiplied_polys) (b_multiplied_polys := b_multiplied_polys) (G_value_at := G_value_at) (g_value_at := g_value_at) (k_value_at := k_value_at) (b_value_at := b_value_at) (G_value := G_value) (g_value := g_value) (k_value := k_value) (b_value := b_value) (G_check_poly := G_check_poly) (g_check_poly := g_check_poly) (k_check_poly := k_check_poly) (b_check_poly := b_check_poly)
  exact ok_law (P := P) (w := w) (mg := mg) (base := base) (F := F_law) (z_int := z_int) (z_len := z_len) (z_repr := z_repr) (z_range := z_range) (z_tuple := z_tuple) (G_law_draws := G_law_draws) (g_law_draws := g_law_draws) (k_law_draws := k_law_draws) (b_law_draws := b_law_draws) (G_law_next := G_law_next) (g_law_next := g_law_next) (k_law_next := k_law_next) (b_law_next := b_law_next) (G_law_world := G_law_world) (g_law_world := g_law_world) (k_law_world := k_law_world) (b_law_world := b_law_world) (G_law_poly := G_law_poly) (g_law_poly := g_law_poly) (k_law_poly := k_law_poly) (b_law_poly := b_law_poly) (G_law_plus := G_law_plus) (g_law_plus := g_law_plus) (k_law_plus := k_law_plus) (b_law_plus := b_law_plus) (G_law_times := G_law_times) (g_law_times := g_law_times) (k_law_times := k_law_times) (b_law_times := b_law_times) (G_law_told := G_law_told) (g_law_told := g_law_told) (k_law_told := k_law_told) (b_law_told := b_law_told) (G_law_value := G_law_value) (g_law_value := g_law_value) (k_law_value := k_law_value) (b_law_value := b_law_value) (G_law_made := G_law_made) (g_law_made := g_law_made) (k_law_made := k_law_made) (b_law_made := b_law_made) (G_value_at := G_value_at) (g_value_at := g_value_at) (k_value_at := k_value_at) (b_value_at := b_value_at) (G_value := G_value) (g_value := g_value) (k_value := k_value) (b_value := b_value) (G_is_poly := G_is_poly) (g_is_poly := g_is_poly) (k_is_poly := k_is_poly) (b_is_poly := b_is_poly) (G_multiplied_polys := G_multiplied_polys) (g_multiplied_polys := g_multiplied_polys) (k_multiplied_polys := k_multiplied_polys) (b_multiplied_polys := b_multiplied_polys)
end T
open PySem PySem.W PyProof.Rows
set_option maxHeartbeats 0 in
theorem PySem.Challenge.cw_threadworth_k04_sums_of_polynomials_holds : PySem.Challenge.rw_threadworth_k04_sums_of_polynomials.Holds := by
  w_on; o_law; k_head; (case hw => w_witness2)
  k_fill
  refine L2.walk_ofG (l := PySem.Challenge.rw_threadworth_k04_sums_of_polynomials) (n := 63) (k := 6) (x := "script") (sp := fun w => T.spLaw _) rfl (by decide) rfl ⟨rfl, by decide, by decide⟩ (fun w h Y => PySem.W.kIn_of Y) ?F (fun _ _ a ns hl hS => ⟨a, ns, rfl, hS, hl, fun _ => rfl⟩)
  case F =>
    intro w mg fa h KX G hmg
    refine' T.all_mk KX G hmg ?a_is_world ?l_is_world ?c_is_world ?k_is_world ?a_law_plain ?l_law_plain ?c_law_plain ?k_law_plain ?a_law_next ?l_law_next ?c_law_next ?k_law_next ?a_law_draws ?l_law_draws ?c_law_draws ?k_law_draws ?a_check_world ?l_check_world ?c_check_world ?k_check_world ?a_lowest_ ?l_lowest_ ?c_lowest_ ?k_lowest_ ?a_inverse_ ?l_inverse_ ?c_inverse_ ?k_inverse_ ?a_number ?l_number ?c_number ?k_number ?a_law_lowest ?l_law_lowest ?c_law_lowest ?k_law_lowest ?a_law_made ?l_law_made ?c_law_made ?k_law_made ?a_law_world ?l_law_world ?c_law_world ?k_law_world ?a_is_poly ?l_is_poly ?c_is_poly ?k_is_poly ?a_check_poly ?l_check_poly ?c_check_poly ?k_check_poly ?a_part_ ?l_part_ ?c_part_ ?k_part_ ?a_trimmed_ ?l_trimmed_ ?c_trimmed_ ?k_trimmed_ ?a_combined_ ?l_combined_ ?c_combined_ ?k_combined_ ?a_added ?l_added ?c_added ?k_added ?a_subtracted ?l_subtracted ?c_subtracted ?k_subtracted ?a_multiplied_polys ?l_multiplied_polys ?c_multiplied_polys ?k_multiplied_polys ?a_split_off_ ?l_split_off_ ?c_split_off_ ?k_split_off_ ?a_value_at ?l_value_at ?c_value_at ?k_value_at ?a_value ?l_value ?c_value ?k_value ?a_law_cut ?l_law_cut ?c_law_cut ?k_law_cut ?a_law_poly ?l_law_poly ?c_law_poly ?k_law_poly ?a_law_value ?l_law_value ?c_law_value ?k_law_value ?a_law_times ?l_law_times ?c_law_times ?k_law_times ?a_law_plus ?l_law_plus ?c_law_plus ?k_law_plus ?a_law_told ?l_law_told ?c_law_told ?k_law_told ?a_law ?l_law ?c_law ?k_law ?zn_int ?zn_range ?zn_abs ?zn_len ?zn_tuple ?zn_max ?zn_enumerate ?zn_reversed ?zn_repr ?zn_isinstance ?n_gcd ?n_PRIMES ?l_PRIMES ?n_NotWorld ?x_NotWorld ?kc_NotWorld ?bc_NotWorld ?tc_NotWorld ?n_NotPoly ?x_NotPoly ?kc_NotPoly ?bc_NotPoly ?tc_NotPoly ?n_BadNumber ?x_BadNumber ?kc_BadNumber ?bc_BadNumber ?tc_BadNumber ?n_TooLarge ?x_TooLarge ?kc_TooLarge ?bc_TooLarge ?tc_TooLarge ?ld_number ?n_MOST_PARTS ?n_WorthError ?ebc ?ehd ?ety ?hn_cls ?ht_cls ?hg_NotPoly ?hk_NotPoly ?hd_NotPoly ?ha_NotPoly ?hm_NotPoly ?sE_p ?hg_NotWorld ?hk_NotWorld ?hd_NotWorld ?ha_NotWorld ?hm_NotWorld ?sE_w ?hg_TooLarge ?hk_TooLarge ?hd_TooLarge ?ha_TooLarge ?hm_TooLarge ?sE_l ?t_pp ?t_pw ?t_pl ?t_wp ?t_ww ?t_wl ?t_lp ?t_lw ?t_ll
    (case a_is_world => k_is); (case l_is_world => k_is); (case c_is_world => k_is); (case k_is_world => k_is); (case a_law_plain => k_is); (case l_law_plain => k_is); (case c_law_plain => k_is); (case k_law_plain => k_is)
    (case a_law_next => k_is); (case l_law_next => k_is); (case c_law_next => k_is); (case k_law_next => k_is); (case a_law_draws => k_is); (case l_law_draws => k_is); (case c_law_draws => k_is); (case k_law_draws => k_is)
    (case a_check_world => k_is); (case l_check_world => k_is); (case c_check_world => k_is); (case k_check_world => k_is); (case a_lowest_ => k_is); (case l_lowest_ => k_is); (case c_lowest_ => k_is); (case k_lowest_ => k_is)
    (case a_inverse_ => k_is); (case l_inverse_ => k_is); (case c_inverse_ => k_is); (case k_inverse_ => k_is); (case a_number => k_is); (case l_number => k_is); (case c_number => k_is); (case k_number => k_is)
    (case a_law_lowest => k_is); (case l_law_lowest => k_is); (case c_law_lowest => k_is); (case k_law_lowest => k_is); (case a_law_made => k_is); (case l_law_made => k_is); (case c_law_made => k_is); (case k_law_made => k_is)
    (case a_law_world => k_is); (case l_law_world => k_is); (case c_law_world => k_is); (case k_law_world => k_is); (case a_is_poly => k_is); (case l_is_poly => k_is); (case c_is_poly => k_is); (case k_is_poly => k_is)
    (case a_check_poly => k_is); (case l_check_poly => k_is); (case c_check_poly => k_is); (case k_check_poly => k_is); (case a_part_ => k_is); (case l_part_ => k_is); (case c_part_ => k_is); (case k_part_ => k_is)
    (case a_trimmed_ => k_is); (case l_trimmed_ => k_is); (case c_trimmed_ => k_is); (case k_trimmed_ => k_is); (case a_combined_ => k_is); (case l_combined_ => k_is); (case c_combined_ => k_is); (case k_combined_ => k_is)
    (case a_added => k_is); (case l_added => k_is); (case c_added => k_is); (case k_added => k_is); (case a_subtracted => k_is); (case l_subtracted => k_is); (case c_subtracted => k_is); (case k_subtracted => k_is)
    (case a_multiplied_polys => k_is); (case l_multiplied_polys => k_is); (case c_multiplied_polys => k_is); (case k_multiplied_polys => k_is); (case a_split_off_ => k_is); (case l_split_off_ => k_is); (case c_split_off_ => k_is); (case k_split_off_ => k_is)
    (case a_value_at => k_is); (case l_value_at => k_is); (case c_value_at => k_is); (case k_value_at => k_is); (case a_value => k_is); (case l_value => k_is); (case c_value => k_is); (case k_value => k_is)
    (case a_law_cut => k_is); (case l_law_cut => k_is); (case c_law_cut => k_is); (case k_law_cut => k_is); (case a_law_poly => k_is); (case l_law_poly => k_is); (case c_law_poly => k_is); (case k_law_poly => k_is)
    (case a_law_value => k_is); (case l_law_value => k_is); (case c_law_value => k_is); (case k_law_value => k_is); (case a_law_times => k_is); (case l_law_times => k_is); (case c_law_times => k_is); (case k_law_times => k_is)
    (case a_law_plus => k_is); (case l_law_plus => k_is); (case c_law_plus => k_is); (case k_law_plus => k_is); (case a_law_told => k_is); (case l_law_told => k_is); (case c_law_told => k_is); (case k_law_told => k_is)
    (case a_law => k_is); (case l_law => k_is); (case c_law => k_is); (case k_law => k_is); (case zn_int => k_is); (case zn_range => k_is); (case zn_abs => k_is); (case zn_len => k_is)
    (case zn_tuple => k_is); (case zn_max => k_is); (case zn_enumerate => k_is); (case zn_reversed => k_is); (case zn_repr => k_is); (case zn_isinstance => k_is); (case n_gcd => k_is); (case n_PRIMES => k_is)
    (case l_PRIMES => k_is); (case n_NotWorld => k_is); (case x_NotWorld => k_exc); (case kc_NotWorld => k_is); (case bc_NotWorld => k_is); (case tc_NotWorld => k_is); (case n_NotPoly => k_is); (case x_NotPoly => k_exc)
    (case kc_NotPoly => k_is); (case bc_NotPoly => k_is); (case tc_NotPoly => k_is); (case n_BadNumber => k_is); (case x_BadNumber => k_exc); (case kc_BadNumber => k_is); (case bc_BadNumber => k_is); (case tc_BadNumber => k_is)
    (case n_TooLarge => k_is); (case x_TooLarge => k_exc); (case kc_TooLarge => k_is); (case bc_TooLarge => k_is); (case tc_TooLarge => k_is); (case ld_number => k_is); (case n_MOST_PARTS => k_is); (case n_WorthError => k_is)
    (case ebc => k_is); (case ehd => k_is); (case ety => k_is); (case hn_cls => k_is); (case ht_cls => k_is); (case hg_NotPoly => k_is); (case hk_NotPoly => k_is); (case hd_NotPoly => k_is)
    (case ha_NotPoly => k_is); (case hm_NotPoly => k_is); (case sE_p => k_is); (case hg_NotWorld => k_is); (case hk_NotWorld => k_is); (case hd_NotWorld => k_is); (case ha_NotWorld => k_is); (case hm_NotWorld => k_is)
    (case sE_w => k_is); (case hg_TooLarge => k_is); (case hk_TooLarge => k_is); (case hd_TooLarge => k_is); (case ha_TooLarge => k_is); (case hm_TooLarge => k_is); (case sE_l => k_is); (case t_pp => kit_is)
    (case t_pw => kit_is); (case t_pl => kit_is); (case t_wp => kit_is); (case t_ww => kit_is); (case t_wl => kit_is); (case t_lp => kit_is); (case t_lw => kit_is); (case t_ll => kit_is)
