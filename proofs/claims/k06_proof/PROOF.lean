import PyProof.Rows.All
import Wide.All
import OpenK.AllK
import Wide.FinOn
import PyProof.EqAt
import PyProof.EqKinds
import PyProof.TupleCall
import HandS.ForExc
import HandS.Comp
import HandS.Iter
import HandS.Gcd
import HandS.Wide
import HandS.Evl
import HandS.Defaults
import HandS.ExcIs
import HandS.TupAny
import HandS.TupMul
import HandS.Walk
import HandS.Rev
import HandS.TupAny
import HandS.TupMul
import HandS.Style
import PyProof.ReprRoads
import PyProof.ReprLen
import PyProof.CallFns
import PyProof.Rows.RegStrFacts
import KE.GoesMore
import PySem.Challenge.RW_threadworth_k06_roots
set_option Elab.async false
set_option linter.all false
set_option maxRecDepth 100000
set_option maxHeartbeats 4000000
namespace T
open PySem PySem.Spec PyProof.Rows L2
/-! ### the mathematics of worlds and numbers -/
def primes : List Int := [2, 3, 5, 7, 11, 13, 17, 19, 23, 29, 31]
def isW (p d : Int) : Bool := if p = 0 then (if -20 ≤ d then decide (d ≤ 20) else false) else (if inV (.int p) (primes.map V.int) = true then (if 0 ≤ d then decide (d < p) else false) else false)
theorem inV_ints {p : Int} : ∀ {l : List Int}, inV (.int p) (l.map V.int) = true → p ∈ l
  | [], h => by cases h
  | x :: l, h => by
    have h1 : ((eqV (.int x) (.int p)) || inV (.int p) (l.map V.int)) = true := h
    rcases (Bool.or_eq_true _ _).mp h1 with h | h
    · have : x = p := of_decide_eq_true (show decide (x = p) = true by simpa [eqV] using h)
      rw [this]
      exact List.mem_cons_self
    · exact List.mem_cons_of_mem _ (inV_ints h)
theorem isW_prime {p d : Int} (h : isW p d = true) (hp : p ≠ 0) : p ∈ primes ∧ 0 ≤ d ∧ d < p := by
  unfold isW at h
  rw [if_neg hp] at h
  by_cases e : inV (.int p) (primes.map V.int) = true
  · rw [if_pos e] at h
    by_cases e2 : 0 ≤ d
    · rw [if_pos e2] at h
      exact ⟨inV_ints e, e2, of_decide_eq_true h⟩
    · rw [if_neg e2] at h
      cases h
  · rw [if_neg e] at h
    cases h
theorem prime_pos {p : Int} (h : p ∈ primes) : 2 ≤ p ∧ p ≤ 31 := by
  simp only [primes, List.mem_cons, List.not_mem_nil, or_false] at h
  omega
theorem inv_exN : ∀ p ∈ [2, 3, 5, 7, 11, 13, 17, 19, 23, 29, 31], ∀ r, r < p → r ≠ 0 → ∃ k, k < p ∧ (k * r) % p = 1 := by decide +kernel
theorem inv_ex {p : Int} (hp : p ∈ primes) {r : Int} (h0 : 0 ≤ r) (h1 : r < p) (hr : r ≠ 0) : ∃ k : Int, 1 ≤ k ∧ k < p ∧ k * r % p = 1 := by
  obtain ⟨n, rfl⟩ := Int.eq_ofNat_of_zero_le (show 0 ≤ p by have := prime_pos hp; omega)
  obtain ⟨m, rfl⟩ := Int.eq_ofNat_of_zero_le h0
  have hn : n ∈ [2, 3, 5, 7, 11, 13, 17, 19, 23, 29, 31] := by
    simp only [primes, List.mem_cons, List.not_mem_nil, or_false] at hp ⊢
    omega
  obtain ⟨k, hk, e⟩ := inv_exN n hn m (by omega) (by omega)
  refine ⟨(k : Int), ?_, by omega, ?_⟩
  · rcases Nat.eq_zero_or_pos k with z | z
    · subst z
      rw [Nat.zero_mul, Nat.zero_mod] at e
      cases e
    · omega
  · have : ((k * m % n : Nat) : Int) = ((1 : Nat) : Int) := by rw [e]
    rw [← Int.natCast_mul, ← Int.natCast_emod, e]
    rfl
/-- lowest terms -/
def gI (a b : Int) : Int := ((Nat.gcd a.natAbs b.natAbs : Nat) : Int)
def low (a b : Int) : Int × Int := if b < 0 then ((-a) / gI a b, (-b) / gI a b) else (a / gI a b, b / gI a b)
theorem gI_pos {a b : Int} (hb : b ≠ 0) : 0 < gI a b := by
  have : 0 < Nat.gcd a.natAbs b.natAbs := Nat.gcd_pos_of_pos_right _ (by omega)
  unfold gI
  omega
theorem gI_le {a b : Int} (hb : b ≠ 0) : gI a b ≤ b.natAbs := by
  have := Nat.gcd_le_right (m := a.natAbs) (n := b.natAbs) (by omega)
  unfold gI
  omega
theorem fdiv_negg (a g : Int) (hg : 0 ≤ g) : a.fdiv (-g) = (-a) / g := by
  rw [← Int.fdiv_eq_ediv_of_nonneg _ hg, ← Int.neg_fdiv_neg (-a) g, Int.neg_neg]
/-- the number a / b -/
def bad (p b : Int) : Prop := b = 0 ∨ (0 < p ∧ b % p = 0)
def IsNum (p a b x y : Int) : Prop := (0 < p ∧ y = 1 ∧ 0 ≤ x ∧ x < p ∧ (x * b - a) % p = 0) ∨ (¬ 0 < p ∧ (x, y) = low a b)
theorem inv_solves {p a b k : Int} (hp : 0 < p) (e : k * (b % p) % p = 1) (h1 : 1 < p) : ((a * k % p) * b - a) % p = 0 := by
  have e1 : (k * b) % p = 1 := by
    rw [Int.mul_emod, Int.emod_emod_of_dvd _ (Int.dvd_refl p), ← Int.mul_emod] at e
    exact e
  have d1 : p ∣ k * b - 1 := by
    apply Int.dvd_of_emod_eq_zero
    rw [Int.sub_emod, e1, Int.emod_eq_of_lt (by omega) h1]
    simp
  have d2 : p ∣ a * k - a * k % p := Int.dvd_self_sub_emod
  apply Int.emod_eq_zero_of_dvd
  have : (a * k % p) * b - a = a * (k * b - 1) - (a * k - a * k % p) * b := by
    rw [Int.mul_sub, Int.sub_mul, Int.mul_assoc]
    omega
  rw [this]
  exact Int.dvd_sub (Int.dvd_mul_of_dvd_right d1) (Int.dvd_mul_of_dvd_left d2)
theorem num_unique {p a b x y x' y' : Int} (hp : p = 0 ∨ p ∈ primes) (hb : ¬ bad p b) (h : IsNum p a b x y) (h' : IsNum p a b x' y') : x = x' ∧ y = y' := by
  rcases h with ⟨h0, e1, l1, u1, m1⟩ | ⟨h0, e1⟩
  · rcases h' with ⟨_, e2, l2, u2, m2⟩ | ⟨h0', _⟩
    · refine ⟨?_, e1.trans e2.symm⟩
      rcases hp with rfl | hp
      · omega
      · have hp2 := prime_pos hp
        have hbp : b % p ≠ 0 := fun z => hb (.inr ⟨h0, z⟩)
        obtain ⟨k, k1, k2, ek⟩ := inv_ex hp (Int.emod_nonneg b (by omega)) (Int.emod_lt_of_pos b h0) hbp
        have e1 : (k * b) % p = 1 := by
          rw [Int.mul_emod, Int.emod_emod_of_dvd _ (Int.dvd_refl p), ← Int.mul_emod] at ek
          exact ek
        have d1 : p ∣ k * b - 1 := by
          apply Int.dvd_of_emod_eq_zero
          rw [Int.sub_emod, e1, Int.emod_eq_of_lt (show (0:Int) ≤ 1 by omega) (show (1:Int) < p by omega)]
          simp
        have d2 : p ∣ (x * b - a) - (x' * b - a) := Int.dvd_sub (Int.dvd_of_emod_eq_zero m1) (Int.dvd_of_emod_eq_zero m2)
        have d3 : p ∣ x - x' := by
          have e : x - x' = k * ((x * b - a) - (x' * b - a)) - (x - x') * (k * b - 1) := by
            have e3 : (x * b - a) - (x' * b - a) = (x - x') * b := by
              rw [Int.sub_mul]
              omega
            rw [e3, Int.mul_sub, Int.mul_one, ← Int.mul_assoc, Int.mul_comm k (x - x'), Int.mul_assoc]
            omega
          rw [e]
          exact Int.dvd_sub (Int.dvd_mul_of_dvd_right d2) (Int.dvd_mul_of_dvd_right d1)
        obtain ⟨c, ec⟩ := d3
        have hc : c = 0 := by
          rcases Int.lt_trichotomy c 0 with z | z | z
          · have : p * c ≤ p * (-1) := Int.mul_le_mul_of_nonneg_left (by omega) (by omega)
            omega
          · exact z
          · have : p * 1 ≤ p * c := Int.mul_le_mul_of_nonneg_left (by omega) (by omega)
            omega
        rw [hc, Int.mul_zero] at ec
        omega
    · exact absurd h0 h0'
  · rcases h' with ⟨h0', _⟩ | ⟨_, e2⟩
    · exact absurd h0' h0
    · have := e1.trans e2.symm
      exact ⟨congrArg Prod.fst this, congrArg Prod.snd this⟩
end T

/-! ### defs that are called where nothing is being shown (no repr is under way): what the law's own def may know -/
namespace L2
open PySem PySem.Spec PyProof.Rows
structure FnG (P : Program) (w : World) (K : PySem.W.Frag) (mg : Str → Option Value) (base : Heap) (k : Nat) (f : Addr) (fd : FuncData) (ps : List Str) (sp : Sp) : Prop where
  len : ∀ vs H Q E, sp vs H Q E → vs.length = ps.length
  run : ∀ (A : Around) (outer : List Env) (s : Shared) (H : Hp) (args : Args) (us : List Value) (vs : List V) (Q : VK) (E : XK), A.guards = some [] → Room k A → Env0 P w K mg base A outer s H →
    BindsTo s fd args (ps.zip us) → Vals vs us → sp vs H Q E → codeAny (model P w) A (.call (.ref f) args) (CR CX0 outer P w H s Q E) s
theorem CE_of {P : Program} {w : World} {K : PySem.W.Frag} {mg : Str → Option Value} {base : Heap} {N : List Str} {qual : Str} {scope : Scope} {f : Addr} {cdv : Value} {A : Around} {outer : List Env} {s s' : Shared} {H H' : Hp} {E : XK} {Q : VK} {σ' : St} {v : V} {u : Value}
    (J : Inv (cxOf CX0 P w K mg base N qual scope f cdv A outer s H E) [] σ' H' s') (rv : RelV v u) (q : Q v H') : CE outer P w H s Q u s' := ⟨v, H', J.os, J.bare, J.base, J.hok, rv, q⟩
theorem Fun.okG {P : Program} {w : World} {K : PySem.W.Frag} {mg : Str → Option Value} {base : Heap} {x qual : Str} {st : Stmt} {f : Addr} {fd : FuncData} {N ps : List Str} {k : Nat} {sp : Sp} (F : Fun K x qual st f fd) (S : FnScope N ps (defScope st))
    (len : ∀ vs H Q E, sp vs H Q E → vs.length = ps.length)
    (hbody : ∀ (cdv : Value) (A : Around) (outer : List Env) (s : Shared) (H : Hp) (vs : List V) (Q : VK) (E : XK), (A.deeper (envOfC qual (defScope st) s.heap.objs.size f cdv)).guards = some [] →
      Room k (A.deeper (envOfC qual (defScope st) s.heap.objs.size f cdv)) → sp vs H Q E →
      ∃ t, PSs (cxOf CX0 P w K mg base N qual (defScope st) f cdv A outer s H E).nox (defBody st) t ∧ t { nx := fun _ H' => Q .non H', rt := Q } (start N vs) H) : FnG P w K mg base (k + 1) f fd ps sp := by
  obtain ⟨oc, od, kV, doc, pm, an, cdv, ct, osl, rfl, lk, hcd⟩ := F.ex
  refine ⟨len, fun A outer s H args us vs Q E hgu hr e0 hb r hsp => ?_⟩
  have keep := fun b o (e : base.get? b = some o) => (e0.bs b o e).1
  have inK : K.In s.heap := e0.mod.kin.keeps keep
  refine codeAny_call_function hr.depth (inK _ _ lk) rfl S.co S.gen rfl (PySem.W.codeRec_of inK hcd) (hb _ _ _ _ ?_)
  refine wpAny_newFunctionEnv_cells S.kind (fun ⟨n, v⟩ hy => ?_) fun env he s1 xx => ?_
  · exact (S.par n (List.of_mem_zip hy).1).elim .inl fun q => .inr ⟨q, PySem.W.cellsFrom_some _ _ _ (.inl q)⟩
  · subst he
    refine ⟨(e0.mod.nolimit.keeps keep).keeps xx.toInCall.keep, codeAny_func ?_⟩
    obtain ⟨t, ht, hq⟩ := hbody cdv A outer s H vs Q E hgu (hr.deeper _) hsp
    have I := inv_start (CX := CX0) (E := E) S hr.hd e0 (len _ _ _ _ hsp) r xx
    refine wpAny_mono (ht.nox.run [] s1 _ H _ I hq) (fun fl s' hs => ?_) fun e s' hs => hs
    rcases fl with _ | _ | _ | u
    · obtain ⟨σ', H', J, q⟩ := hs
      exact CE_of (v := V.non) (u := Value.none) J rfl q
    · exact hs.elim fun _ z => z.elim fun _ z => z.2.elim
    · exact hs.elim fun _ z => z.elim fun _ z => z.2.elim
    · obtain ⟨v, σ', H', J, rv, q⟩ := hs
      exact CE_of J rv q
end L2

namespace L2
open PySem PySem.Spec PyProof.Rows
/-- the law's def, called by the claim's caller: nothing is being shown there -/
theorem goes_at {P : Program} {w : World} {K : PySem.W.Frag} {mg mb : Str → Option Value} {k : Nat} {fa a : Addr} {fd : FuncData} {x : Str} {sp : Sp} {t : Shared} {vs : List Value} {xs : List V} {H : Hp}
    (KX : K.In t.heap) (hns : t.heap.Ns mainGlobals mg) (hb : t.heap.Ns builtinsNs mb) (hbb : ∀ y : Str, y ≠ "__name__" → mb y = bootBuiltins y) (hlim : t.heap.NoLimit) (hg : t.gens = #[])
    (ha : t.heap.get? a = some { cls := .type "list", data := .seq vs.toArray }) (hr : Room k callerA)
    (F : ∀ base : Heap, K.In base → base.Ns mainGlobals mg → FnG P w K mg base k fa fd [x] sp) (hbind : ∀ (s : Shared) (u : Value), BindsTo s fd ⟨[u], []⟩ [(x, u)])
    (hO : Only H) (hsp : sp [.ref a] H (fun v _ => v = .bl true) fun _ _ _ => False) (hok : HOk P w H t.heap) (hA : ∀ b, H b ≠ none → b = a) (hK : H a ≠ none → K.lookup a = none) :
    codeAny (model P w) callerA (.call (.ref fa) ⟨[.ref a], []⟩) (fun r s' => r = .ok (.ret (.bool true)) ∧ OldK t.heap s'.heap ∧ s'.os = t.os ∧ AllBare s'.gens) t := by
  have free : ∀ {b : Addr}, (H b ≠ none → False) → H b = none := fun {b} z => by
    rcases e : H b with _ | u
    · rfl
    · exact (z (by rw [e]; exact fun q => nomatch q)).elim
  have ns : ∀ {b : Addr} {m : Str → Option Value}, t.heap.Ns b m → (hidT t.heap H).Ns b m := fun {b m} z => by
    obtain ⟨o, es, ep, e, d, r⟩ := z
    refine ⟨o, es, ep, hidT_get e (free fun z => ?_), d, r⟩
    rw [hA b z, ha] at e
    cases e
    cases d
  have inB : K.In (hidT t.heap H) := fun b o e => hidT_get (KX b o e) (free fun z => by
    have eb := hA b z
    rw [eb] at z e
    rw [hK z] at e
    cases e)
  obtain ⟨mc, l1, l2⟩ := hlim
  have env : Env0 P w K mg (hidT t.heap H) callerA [] t H := ⟨rfl, ⟨inB, ns hns, ⟨mb, ns hb, hbb⟩, ⟨mc, ns l1, l2⟩⟩, fun b o e => of_hidT e, Nat.le_of_eq (hidT_size _ _), trivial, fun b hb => (nomatch hb), hok, .of_eq hg⟩
  refine codeAny_mono ((F _ inB (ns hns)).run callerA [] t H _ [.ref a] [.ref a] _ _ rfl hr env (hbind t (.ref a)) (.cons rfl .nil) hsp) fun r s' h => ?_
  rcases r with e | fl
  · exact (show False from h).elim
  · rcases fl with _ | _ | _ | u
    · exact (show False from h).elim
    · exact (show False from h).elim
    · exact (show False from h).elim
    · obtain ⟨v, H', os, bare, un, hok', rv, q⟩ := h
      obtain rfl : v = .bl true := q
      obtain rfl : u = Value.bool true := rv
      refine ⟨rfl, OldK.of_keep fun b o e => ?_, os, bare⟩
      rcases hO b with z | ⟨ob, ys, z⟩
      · exact un.keep b o e z (fun z => nomatch z) (fun z => nomatch z)
      · have e1 := (hok b _ z).1
        rw [e] at e1
        rw [Option.some.inj e1]
        exact (hok' b _ (un.frzs b ob _ z)).1
theorem walk_ofG {l : PySem.W.OpenLaw} {n k : Nat} {q : Program} {loose : List Str} {XP : (Str → Option Value) → Heap → Prop} {YP : World → Heap → Prop} {d : DefRec} {K : Params → PySem.W.Frag} {sp : World → Sp} {x : Str}
    (hn : l.most = some n) (hn2 : n ≤ sizeLine) (hdf : d.params.defaults = []) (hr : Room k callerA) (hY : ∀ (w : World) (h : Heap), YP w h → (K w.params).In h)
    (F : ∀ (w : World) (mg : Str → Option Value) (fa : Addr) (h : Heap), (K w.params).In h → h.Ns mainGlobals mg → mg d.name = some (.ref fa) →
      ∃ fd : FuncData, (∀ (s : Shared) (u : Value), BindsTo s fd ⟨[u], []⟩ [(x, u)]) ∧ ∀ base : Heap, (K w.params).In base → base.Ns mainGlobals mg → FnG l.prog w (K w.params) mg base k fa fd [x] (sp w))
    (hsp : ∀ (w : World) (H : Hp) (a : Addr) (ns : List Int), ns.length ≤ n → SqL (K w.params) H a (ns.map V.int) → sp w [.ref a] H (fun v _ => v = .bl true) fun _ _ _ => False) :
    PySem.W.WalkO q loose XP YP l.row.toRowW d [] (fun f vs => PySem.call f vs) := by
  refine Att.attach_call hn hdf fun w s₀ t mg mb fa o pm cd doc a vs ns G Y ho hd hcd hmg hobj hints hlen hg => ?_
  have KX := hY w _ Y
  obtain ⟨fd, hb, hF⟩ := F w mg fa _ KX G.T.g hmg
  have rv : Vals (ns.map V.int) vs := vals_ints hints
  have lv := hints.length
  rcases hk : (K w.params).lookup a with _ | oa
  · refine goes_at (xs := ns.map V.int) (H := fun b => if b = a then some (.frz { cls := .type "list", data := .seq vs.toArray } (.lst (ns.map V.int))) else none) KX G.T.g G.T.b G.T.builtins G.T.nolimit hg hobj hr hF hb
      (fun b => ?_) (hsp w _ a ns hlen (.inl (.inr ⟨_, if_pos rfl⟩))) (fun b u z => ?_) (fun b z => Decidable.byContradiction fun c => z (if_neg c)) fun _ => hk
    · by_cases c : b = a
      · exact .inr ⟨_, _, if_pos c⟩
      · exact .inl (if_neg c)
    · by_cases c : b = a
      · have z' := (if_pos c).symm.trans z
        cases z'
        subst c
        exact ⟨hobj, by rw [List.length_map]; omega, vs, _, rv, hobj⟩
      · have z' := (if_neg c).symm.trans z
        cases z'
  · have e := (KX a oa hk).symm.trans hobj
    cases e
    exact goes_at (xs := ns.map V.int) (H := fun _ => none) KX G.T.g G.T.b G.T.builtins G.T.nolimit hg hobj hr hF hb (fun _ => .inl rfl)
      (hsp w _ a ns hlen (.inr ⟨_, vs.toArray, _, hk, rfl, rfl, rfl, by rw [List.size_toArray]; omega, rv⟩)) (fun b u z => nomatch z) (fun b z => (z rfl).elim) fun z => (z rfl).elim
end L2

namespace L2
open PySem PySem.Spec PyProof.Rows
/-! ### repr(data), where nothing is being shown -/
mutual
def wt : PyData → Nat
  | .none => 4
  | .bool _ => 5
  | .int _ => 1921
  | .str x => (reprText x).length
  | .list xs => wtAll xs + 3
  | .tuple xs => wtAll xs + 3
  | .dict _ => 0
def wtAll : List PyData → Nat
  | [] => 0
  | x :: xs => wt x + 2 + wtAll xs
end
mutual
theorem shown_wt : ∀ d : PyData, d.showable = true → d.hasDict = false → d.shown.length ≤ wt d
  | .none, _, _ => by simp only [PyData.shown, wt]; decide +kernel
  | .bool b, _, _ => by cases b <;> simp only [PyData.shown, wt] <;> decide +kernel
  | .int i, h, _ => by
    simp only [PyData.shown, wt]
    exact int_text_len_1921 (by simpa [PyData.showable] using h)
  | .str x, _, _ => by simp only [PyData.shown, wt]; exact Nat.le_refl _
  | .list xs, h, h2 => by
    simp only [PyData.showable] at h
    simp only [PyData.hasDict] at h2
    simp only [PyData.shown, wt]
    have h3 := shown_wtAll xs h h2
    have h4 := listText_len_le (PyData.shownAll xs)
    omega
  | .tuple xs, h, h2 => by
    simp only [PyData.showable] at h
    simp only [PyData.hasDict] at h2
    simp only [PyData.shown, wt]
    have h3 := shown_wtAll xs h h2
    have h4 := tupleText_len_le (PyData.shownAll xs)
    omega
  | .dict _, _, h2 => by simp [PyData.hasDict] at h2
theorem shown_wtAll : ∀ xs : List PyData, PyData.showableAll xs = true → PyData.hasDictAll xs = false → ((PyData.shownAll xs).map (·.length)).sum + 2 * (PyData.shownAll xs).length ≤ wtAll xs
  | [], _, _ => by simp [PyData.shownAll, wtAll]
  | x :: xs, h, h2 => by
    simp only [PyData.showableAll, Bool.and_eq_true] at h
    simp only [PyData.hasDictAll, Bool.or_eq_false_iff] at h2
    have h3 := shown_wt x h.1 h2.1
    have h4 := shown_wtAll xs h.2 h2.2
    simp only [PyData.shownAll, wtAll, List.map_cons, List.sum_cons, List.length_cons]
    omega
end
def rReprD (K : PySem.W.Frag) : List V → Hp → VK → Prop := fun xs H Q => ∃ x d, xs = [x] ∧ Dp K H x d ∧ SeqAt.shaped d = true ∧ d.showable = true ∧ wt d ≤ sizeLine ∧ Q (.str d.shown) H
theorem cr_reprD {X : Cx} (hg : X.A.guards = some []) (hu : X.A.units + 65 < cLine) : CallR X (.builtin "repr") (rReprD X.K) := by
  intro pins s σ H vs us Q I r h
  obtain ⟨x, d, rfl, hd, hs, hw, hz, q⟩ := h
  cases r with
  | cons rv rn =>
    rename_i v us'
    cases rn
    have hs' : (d.canLay0 && decide (d.depth ≤ 64)) = true := hs
    rw [Bool.and_eq_true] at hs'
    have nd := PyData.hasDict_of_canLay d hs'.1
    have dep : d.depth ≤ 64 := of_decide_eq_true hs'.2
    have sz := Nat.le_trans (shown_wt d hw nd) hz
    obtain ⟨as, rd⟩ := Dp.reads I d x v hd rv
    have ref : ∀ a : Addr, v = .ref a → wpAny (model X.prog X.w) X.A (call (.builtin "repr") [v]) (EP X pins σ Q) X.xe s := fun a e => by
      subst e
      exact repr_of_reads' rd hw (PyData.noDict_hsm nd) hg (by omega) (fun _ _ e => e) (fun h' u tk hk => ⟨.str _, H, I.kept (t' := tk) hk, ⟨u, rfl⟩, q⟩) sz
    cases hd with
    | non =>
      cases rv
      exact PySem.P.repr_of_none ⟨.str _, H, I.tok _, ⟨_, rfl⟩, by simpa only [PyData.shown] using q⟩
    | bl b =>
      cases rv
      exact PySem.P.repr_of_bool ⟨.str _, H, I.tok _, ⟨_, rfl⟩, by simpa only [PyData.shown] using q⟩
    | int i =>
      obtain ⟨t, rfl⟩ := rv
      exact PySem.P.repr_of_int (by simpa [PyData.showable] using hw) ⟨.str _, H, I.tok _, ⟨_, rfl⟩, by simpa only [PyData.shown] using q⟩
    | str y =>
      obtain ⟨t, rfl⟩ := rv
      exact PySem.P.repr_of_str ⟨.str _, H, I.tok _, ⟨_, rfl⟩, by simpa only [PyData.shown] using q⟩ (by simpa only [PyData.shown] using sz)
    | lst _ _ => exact ref _ rv
    | tup _ _ => exact ref _ rv
end L2

namespace T
/-! ### fractions -/
theorem low_pos {a : Int} {n : Nat} (hn : n ≠ 0) : low a (n : Int) = ((Rat.divInt a (n : Int)).num, ((Rat.divInt a (n : Int)).den : Int)) := by
  have e : Rat.divInt a (n : Int) = Rat.normalize a n hn := by
    show mkRat a n = _
    rw [Rat.mkRat_def, dif_neg hn]
  rw [e, Rat.normalize_eq]
  unfold low gI
  rw [if_neg (by omega), Int.natAbs_natCast]
  show (_, _) = (_, (((n / a.natAbs.gcd n : Nat)) : Int))
  rw [Int.natCast_ediv]
theorem low_rat {a b : Int} (hb : b ≠ 0) : low a b = ((Rat.divInt a b).num, ((Rat.divInt a b).den : Int)) := by
  by_cases c : 0 < b
  · obtain ⟨n, rfl⟩ := Int.eq_ofNat_of_zero_le (Int.le_of_lt c)
    exact low_pos (by omega)
  · obtain ⟨n, hn⟩ := Int.eq_ofNat_of_zero_le (show 0 ≤ -b by omega)
    have e : Rat.divInt a b = Rat.divInt (-a) (n : Int) := (Rat.divInt_eq_divInt_iff hb (by omega)).mpr (by rw [← hn, Int.mul_neg, Int.neg_mul])
    rw [e, ← low_pos (by omega), ← hn]
    unfold low gI
    rw [if_pos (by omega), if_neg (by omega), Int.natAbs_neg, Int.natAbs_neg]
theorem low_congr {a b a' b' : Int} (hb : b ≠ 0) (hb' : b' ≠ 0) (h : a * b' = a' * b) : low a b = low a' b' := by
  rw [low_rat hb, low_rat hb', (Rat.divInt_eq_divInt_iff hb hb').mpr h]
theorem low_q {a b u v : Int} (hb : b ≠ 0) (h : (u, v) = low a b) : Rat.divInt u v = Rat.divInt a b ∧ 0 < v := by
  rw [low_rat hb] at h
  have e1 : u = (Rat.divInt a b).num := congrArg Prod.fst h
  have e2 : v = ((Rat.divInt a b).den : Int) := congrArg Prod.snd h
  rw [e1, e2]
  exact ⟨Rat.num_divInt_den _, by have := (Rat.divInt a b).den_pos; omega⟩
theorem low_cross {a b u v : Int} (hb : b ≠ 0) (h : (u, v) = low a b) : u * b = a * v ∧ 0 < v := by
  obtain ⟨h1, h2⟩ := low_q hb h
  exact ⟨(Rat.divInt_eq_divInt_iff (by omega) hb).mp h1, h2⟩
/-- a number times a number: the parts may be reduced ahead or behind -/
theorem num_step {p A B u v a b u' v' : Int} (hp : p = 0 ∨ p ∈ primes) (hB : p = 0 → B ≠ 0) (hb0 : p = 0 → b ≠ 0) (hb1 : p ≠ 0 → b = 1) (hB1 : p ≠ 0 → B = 1) (h : IsNum p A B u v) (h' : IsNum p (u * a) (v * b) u' v') : IsNum p (A * a) (B * b) u' v' := by
  by_cases c : p = 0
  · obtain ⟨_, e⟩ := h.resolve_left (fun z => by omega)
    obtain ⟨_, e'⟩ := h'.resolve_left (fun z => by omega)
    obtain ⟨x1, x2⟩ := low_cross (hB c) e
    refine .inr ⟨by omega, e'.trans (low_congr (Int.mul_ne_zero (by omega) (hb0 c)) (Int.mul_ne_zero (hB c) (hb0 c)) ?_)⟩
    calc u * a * (B * b) = u * B * (a * b) := by rw [Int.mul_assoc, Int.mul_assoc]; congr 1; rw [← Int.mul_assoc, ← Int.mul_assoc, Int.mul_comm a B]
      _ = A * v * (a * b) := by rw [x1]
      _ = A * a * (v * b) := by rw [Int.mul_assoc, Int.mul_assoc]; congr 1; rw [← Int.mul_assoc, ← Int.mul_assoc, Int.mul_comm v a]
  · have hp2 := prime_pos (hp.resolve_left c)
    obtain ⟨h0, e1, l1, u1, m1⟩ := h.resolve_right (fun z => by omega)
    obtain ⟨_, e2, l2, u2, m2⟩ := h'.resolve_right (fun z => by omega)
    refine .inl ⟨h0, e2, l2, u2, ?_⟩
    rw [hB1 c, hb1 c]
    rw [hB1 c, Int.mul_one] at m1
    rw [hb1 c, e1] at m2
    have d1 := Int.dvd_of_emod_eq_zero m1
    have d2 := Int.dvd_of_emod_eq_zero m2
    apply Int.emod_eq_zero_of_dvd
    have e : u' * (1 * 1) - A * a = (u' * (1 * 1) - u * a) + (u - A) * a := by
      rw [Int.sub_mul]
      omega
    rw [e]
    exact Int.dvd_add d2 (Int.dvd_mul_of_dvd_left d1)
theorem low_small {a b u v : Int} (h : (u, v) = low a b) : u.natAbs ≤ a.natAbs ∧ v.natAbs ≤ b.natAbs := by
  have e1 := congrArg Prod.fst h
  have e2 := congrArg Prod.snd h
  unfold low at e1 e2
  by_cases c : b < 0
  · rw [if_pos c] at e1 e2
    have f1 : u = (-a) / gI a b := e1
    have f2 : v = (-b) / gI a b := e2
    have g1 := Int.natAbs_ediv_le_natAbs (-a) (gI a b)
    have g2 := Int.natAbs_ediv_le_natAbs (-b) (gI a b)
    rw [f1, f2]
    omega
  · rw [if_neg c] at e1 e2
    have f1 : u = a / gI a b := e1
    have f2 : v = b / gI a b := e2
    have g1 := Int.natAbs_ediv_le_natAbs a (gI a b)
    have g2 := Int.natAbs_ediv_le_natAbs b (gI a b)
    rw [f1, f2]
    omega
theorem num_small {p a b u v : Int} (hp : p = 0 ∨ p ∈ primes) (h : IsNum p a b u v) (ha : a.natAbs < 2 ^ 199) (hb : b.natAbs < 2 ^ 199) : u.natAbs < 2 ^ 200 ∧ v.natAbs < 2 ^ 200 := by
  rcases h with ⟨h0, rfl, h1, h2, _⟩ | ⟨_, h⟩
  · have := prime_pos (hp.resolve_left (by omega))
    omega
  · have := low_small h
    omega
theorem isW_cases {p d : Int} (hw : isW p d = true) : (p = 0 ∨ p ∈ primes) ∧ d.natAbs ≤ 31 := by
  by_cases c : p = 0
  · refine ⟨.inl c, ?_⟩
    unfold isW at hw
    rw [if_pos c] at hw
    by_cases h1 : -20 ≤ d
    · rw [if_pos h1] at hw
      have := of_decide_eq_true hw
      omega
    · rw [if_neg h1] at hw
      cases hw
  · obtain ⟨h1, h2, h3⟩ := isW_prime hw c
    have := prime_pos h1
    exact ⟨.inr h1, by omega⟩
end T

namespace T
open PySem PySem.Spec PyProof.Rows L2
/-! ### lists of integers as polynomials -/
def co (l : List Int) (k : Nat) : Int := l.getD k 0
theorem co_ge {l : List Int} {k : Nat} (h : l.length ≤ k) : co l k = 0 := by
  unfold co
  rw [List.getD_eq_getElem?_getD, List.getElem?_eq_none h]
  rfl
theorem co_get {l : List Int} {k : Nat} (h : k < l.length) : l[k]? = some (co l k) := by
  unfold co
  rw [List.getD_eq_getElem?_getD, List.getElem?_eq_getElem h]
  rfl
theorem co_mem {l : List Int} {k : Nat} (h : k < l.length) : co l k ∈ l := by
  have e := co_get h
  exact List.mem_of_getElem? e
theorem at_co {l : List Int} {k : Nat} (h : k < l.length) : atI (l.map V.int) (k : Int) = some (.int (co l k)) := atI_nat (by rw [List.getElem?_map, co_get h]; rfl)
theorem at_end {l : List Int} (h : l ≠ []) : atI (l.map V.int) (-1) = some (.int (co l (l.length - 1))) := by
  have hl : 0 < l.length := List.length_pos_iff.mpr h
  have e : l.map V.int = (l.take (l.length - 1)).map V.int ++ [V.int (co l (l.length - 1))] := by
    have e1 : l = l.take (l.length - 1) ++ [co l (l.length - 1)] := by
      have := List.take_succ (l := l) (i := l.length - 1)
      rw [show l.length - 1 + 1 = l.length by omega, List.take_length, co_get (by omega)] at this
      exact this
    conv => lhs; rw [e1]
    rw [List.map_append]
    rfl
  rw [e]
  exact atI_last _ _
/-- no 0 at the end -/
def Pol (l : List Int) : Prop := l = [] ∨ co l (l.length - 1) ≠ 0
theorem pol_len {l m : List Int} (hm : Pol m) (h : ∀ k, co l k = co m k) : m.length ≤ l.length := by
  rcases hm with rfl | hm
  · exact Nat.zero_le _
  · rcases Nat.lt_or_ge l.length m.length with c | c
    · rw [← h, co_ge (by omega)] at hm
      exact absurd rfl hm
    · exact c
theorem pol_ext {l m : List Int} (hl : Pol l) (hm : Pol m) (h : ∀ k, co l k = co m k) : l = m := by
  have h1 := pol_len hm h
  have h2 := pol_len hl (fun k => (h k).symm)
  refine List.ext_getElem? fun k => ?_
  rcases Nat.lt_or_ge k l.length with c | c
  · rw [co_get c, co_get (by omega), h]
  · rw [List.getElem?_eq_none c, List.getElem?_eq_none (by omega)]
theorem co_take {l : List Int} {s k : Nat} (h : ∀ i, s ≤ i → co l i = 0) : co (l.take s) k = co l k := by
  rcases Nat.lt_or_ge k s with c | c
  · unfold co
    rw [List.getD_eq_getElem?_getD, List.getD_eq_getElem?_getD, List.getElem?_take_of_lt c]
  · rw [h k c, co_ge (by rw [List.length_take]; omega)]
theorem pol_take {l : List Int} {s : Nat} (hs : s ≤ l.length) (h : s = 0 ∨ co l (s - 1) ≠ 0) (hz : ∀ i, s ≤ i → co l i = 0) : Pol (l.take s) := by
  rcases h with rfl | h
  · exact .inl rfl
  · by_cases c : s = 0
    · rw [c]
      exact .inl rfl
    · refine .inr ?_
      rw [List.length_take, Nat.min_eq_left hs, co_take hz]
      exact h
theorem co_map {f : Int → Int} (h0 : f 0 = 0) (l : List Int) (k : Nat) : co (l.map f) k = f (co l k) := by
  rcases Nat.lt_or_ge k l.length with c | c
  · have := co_get c
    unfold co
    rw [List.getD_eq_getElem?_getD, List.getElem?_map, List.getD_eq_getElem?_getD, this]
    rfl
  · rw [co_ge (by rw [List.length_map]; omega), co_ge c, h0]
theorem co_set {l : List Int} {i : Nat} {v : Int} (k : Nat) (h : i < l.length) : co (l.set i v) k = if k = i then v else co l k := by
  unfold co
  rw [List.getD_eq_getElem?_getD, List.getElem?_set]
  by_cases c : i = k
  · rw [if_pos c, if_pos c.symm, if_pos (by omega)]
    rfl
  · rw [if_neg c, if_neg (fun z => c z.symm), List.getD_eq_getElem?_getD]
theorem co_zeros (n k : Nat) : co (List.replicate n 0) k = 0 := by
  unfold co
  rw [List.getD_eq_getElem?_getD, List.getElem?_replicate]
  split <;> rfl
theorem map_set (l : List Int) (i : Nat) (v : Int) : (l.map V.int).set i (V.int v) = (l.set i v).map V.int := List.map_set.symm
/-! the value -/
def ev (x : Int) : List Int → Int
  | [] => 0
  | a :: r => a + x * ev x r
theorem ev_append (x : Int) (l : List Int) (a : Int) : ev x (l ++ [a]) = ev x l + x ^ l.length * a := by
  induction l with
  | nil => show a + x * 0 = 0 + x ^ 0 * a; rw [Int.pow_zero]; grind
  | cons b r ih =>
    show b + x * ev x (r ++ [a]) = b + x * ev x r + x ^ (r.length + 1) * a
    rw [ih, Int.pow_succ]
    grind
theorem ev_take (x : Int) {l : List Int} {i : Nat} (h : i < l.length) : ev x (l.take (i + 1)) = ev x (l.take i) + co l i * x ^ i := by
  have e : l.take (i + 1) = l.take i ++ [co l i] := by rw [List.take_succ, co_get h]; rfl
  rw [e, ev_append, List.length_take, Nat.min_eq_left (by omega), Int.mul_comm]
theorem ev_drop (x : Int) {l : List Int} {i : Nat} (h : i < l.length) : ev x (l.drop i) = co l i + x * ev x (l.drop (i + 1)) := by
  rw [List.drop_eq_getElem_cons h]
  have := co_get h
  rw [List.getElem?_eq_getElem h] at this
  rw [Option.some.inj this]
  rfl
/-! the product: what is there behind i rows, and j entries of the next -/
def row (one other : List Int) (i k : Nat) : Int := if i ≤ k then co one i * co other (k - i) else 0
def conv (one other : List Int) : Nat → Nat → Int
  | 0, _ => 0
  | i + 1, k => conv one other i k + row one other i k
theorem conv_more (one other : List Int) (k : Nat) : ∀ i, one.length ≤ i → conv one other i k = conv one other one.length k
  | 0, h => by rw [show one.length = 0 by omega]
  | i + 1, h => by
    by_cases c : one.length = i + 1
    · rw [c]
    · show conv one other i k + row one other i k = _
      rw [conv_more one other k i (by omega)]
      unfold row
      rw [co_ge (l := one) (by omega)]
      split <;> simp
theorem conv_top (one other : List Int) {k : Nat} : ∀ i, i ≤ one.length → i + other.length ≤ k + 1 → conv one other i k = 0
  | 0, _, _ => rfl
  | i + 1, h, hk => by
    show conv one other i k + row one other i k = 0
    rw [conv_top one other i (by omega) (by omega)]
    unfold row
    rw [if_pos (by omega), co_ge (l := other) (by omega)]
    simp
theorem conv_zero (one : List Int) (k : Nat) : ∀ i, conv one [] i k = 0
  | 0 => rfl
  | i + 1 => by
    show conv one [] i k + row one [] i k = 0
    rw [conv_zero one k i]
    unfold row
    rw [show co [] (k - i) = 0 from co_ge (Nat.zero_le _)]
    split <;> simp
theorem rep0 : ∀ n : Nat, (List.replicate n [V.int 0]).flatten = (List.replicate n (0 : Int)).map V.int
  | 0 => rfl
  | n + 1 => by
    rw [List.replicate_succ, List.flatten_cons, rep0 n, List.replicate_succ, List.map_cons]
    rfl
theorem ixN_nat {n j : Nat} (h : j < n) : ixN n (j : Int) = some j := by
  unfold ixN
  rw [if_pos (by omega), if_pos (by omega)]
  rfl
end T

/-! ### enumerate over a tuple (the hand layer has it over a list) -/
namespace PySem
open Sem (wp)
open AutoSeq1 (wpAny_loadPart')
theorem new_enumT (t : Addr) (its : Array Value) (n : Nat) (dc : Option Addr) (sl : Array (Option Value)) :
    Meets (Builtin.«enumerate.__new__» ⟨[.type "enumerate", .ref t], []⟩) (fun _ R s => s.heap.get? t = some { cls := .type "tuple", dict := dc, data := .seq its n, slots := sl } ∧
      R (.ok (.ret (.ref (s.heap.push { cls := .type "tuple_iterator", data := .fields #[.ref t, .int 0 0] }).objs.size)))
        { s with heap := (s.heap.push { cls := .type "tuple_iterator", data := .fields #[.ref t, .int 0 0] }).push { cls := .type "enumerate", data := .fields #[.none, .bool false, .ref s.heap.objs.size, rawInt 0, .none, .none] } }) :=
  .of_wp fun prog w A R s both => by
    obtain ⟨hp, g, d, tk, os⟩ := s
    obtain ⟨ht, both⟩ := both
    have below := sub_enumerate
    have tup : Heap.IsTuple (Shared.heap ⟨hp, g, d, tk, os⟩) t its := ⟨_, ht, rfl, n, rfl⟩
    wp_walk using wpAny_loadPart' ht
    refine wpAny_stack_any fun _ => wpAny_pure ?_
    split
    · rename_i c _ _ _ _ _
      cases (c == Value.type "enumerate")
      · wp_walk using wpAny_loadPart' ht, wpAny_pyIter_tuple tup
        exact ⟨_, rfl, both⟩
      · wp_walk using wpAny_loadPart' ht, wpAny_pyIter_tuple tup
        exact ⟨_, rfl, both⟩
    · wp_walk using wpAny_loadPart' ht, wpAny_pyIter_tuple tup
      exact ⟨_, rfl, both⟩
section
variable {prog : Program} {w : World} {A : Around} {E : Value → Shared → Prop} {s : Shared}
theorem call_enumT {t : Addr} {its : Array Value} {Q : Value → Shared → Prop} (ht : s.heap.IsTuple t its)
    (q : ∀ h', IsEnum h' (s.heap.objs.size + 1) s.heap.objs.size 0 .none → h'.IsTupleIter s.heap.objs.size t 0 →
      (∀ b o, s.heap.get? b = some o → h'.get? b = some o) → Q (.ref (s.heap.objs.size + 1)) { s with heap := h' }) :
    wpAny (model prog w) A (call (.type "enumerate") [.ref t]) Q E s := by
  obtain ⟨⟨c, dc, da, sl⟩, ht, ec, n, ed⟩ := ht
  obtain rfl : c = .type "tuple" := ec
  obtain rfl : da = .seq its n := ed
  refine callType_new F.called_enumerate (by decide) (F.typeCall_enumerate_1 _) (F.newCall_enumerate_1 _) (fun ob => F.args_object_init_2 ob _) F.entry_enumerate_new (new_enumT t its n dc sl) ⟨ht, ?_⟩
  have sz : (s.heap.push { cls := .type "tuple_iterator", data := .fields #[.ref t, .int 0 0] }).objs.size = s.heap.objs.size + 1 := Heap.size_push ..
  show _ ∧ _
  rw [sz]
  have en : IsEnum ((s.heap.push { cls := .type "tuple_iterator", data := .fields #[.ref t, .int 0 0] }).push { cls := .type "enumerate", data := .fields #[.none, .bool false, .ref s.heap.objs.size, rawInt 0, .none, .none] })
      (s.heap.objs.size + 1) s.heap.objs.size 0 .none := by
    have z := Heap.get?_push_size (s.heap.push { cls := .type "tuple_iterator", data := .fields #[.ref t, .int 0 0] }) (o := { cls := .type "enumerate", data := .fields #[.none, .bool false, .ref s.heap.objs.size, rawInt 0, .none, .none] }) rfl
    rw [sz] at z
    exact z
  exact ⟨⟨_, en, rfl⟩, q _ en ⟨_, Heap.get?_push_of_some _ (Heap.get?_push_size _ rfl), rfl, rfl⟩ fun b o x => Heap.get?_push_of_some _ (Heap.get?_push_of_some _ x)⟩
end
end PySem
namespace L2
open PySem PySem.Spec PyProof.Rows
/-- the tuple at a, each item in a new pair behind its index -/
def IteT (K : PySem.W.Frag) (a : Addr) : It :=
  ⟨fun i H => ∃ (ys : List V) (y : V), SqT K H a ys ∧ ys[i]? = some y, fun i H v H' => ∃ p y, v = .ref p ∧ H p = none ∧ H' = upd H p (.tup [.int (i : Nat), y]) ∧ ∀ ys, SqT K H a ys → ys[i]? = some y,
    fun i H => ∃ ys : List V, SqT K H a ys ∧ ys.length = i⟩
theorem turn_enumT {P : Program} {w : World} {K : PySem.W.Frag} {elts : List Expr} {kk : Nat} {tp : Pos} (a e it : Addr) :
    Turn P w K (.Tuple elts kk tp) (IteT K a) [e, it] e (fun i h => (∃ old, IsEnum h e it ((i : Nat) : Int) old) ∧ h.IsTupleIter it a i ∧ (e ≠ it ∧ a ≠ it ∧ a ≠ e)) where
  mem := by simp
  obj := fun i h st b hb => by
    obtain ⟨⟨old, he⟩, ⟨o, ho, _, dd⟩, _⟩ := st
    rcases (show b = e ∨ b = it by simpa using hb) with rfl | rfl
    · exact ⟨_, he, fun v z => nomatch z⟩
    · exact ⟨o, ho, fun v z => by rw [dd] at z; exact nomatch z⟩
  keep := fun i h h' st k => by
    obtain ⟨⟨old, he⟩, ⟨o, ho, r⟩, ne⟩ := st
    exact ⟨⟨old, k e (by simp) _ he⟩, ⟨o, k it (by simp) _ ho, r⟩, ne⟩
  item := by
    intro X hP hw hK hc i pins s σ H E I hf st hg
    subst hP hw hK
    obtain ⟨⟨old, he⟩, hit, ne, nai, nae⟩ := st
    obtain ⟨ys, y, hq, hy⟩ := hg
    obtain ⟨its, rv, p, hz⟩ := I.tuple hq
    obtain ⟨u, hu, ru⟩ := rv.get hy
    have szE : e < s.heap.objs.size := Heap.lt_size he
    have szI : it < s.heap.objs.size := by
      obtain ⟨_, z, _⟩ := hit
      exact Heap.lt_size z
    have small : ∀ b ∈ [e, it], b < s.heap.objs.size := fun b hb => by
      rcases (show b = e ∨ b = it by simpa using hb) with rfl | rfl <;> assumption
    have D := Draws.tuple (prog := X.prog) (w := X.w) (A := X.A.in1) (I.ok.hd hc) it a nai its.toArray
    have hlt : i < its.toArray.size := by
      have := (List.getElem?_eq_some_iff.mp hu).1
      simpa using this
    refine wpAny_pyNext_enum_itemD D he ⟨hit, p⟩ hlt ne (by simp only [List.mem_cons, List.not_mem_nil, or_false, not_or]; exact ⟨ne, Ne.symm nae⟩) fun x h' tk hx ho st2 hT hsz hk => ?_
    obtain ⟨hit2, _⟩ := st2
    have ex : x = u := by
      have h2 : its.toArray[i]? = some u := by simpa using hu
      rw [h2] at hx
      exact (Option.some.inj hx).symm
    subst ex
    refine ⟨_, rfl, wpAny_letOwnedTupleGo_enum (s := { s with heap := h', toks := tk + 1 }) ho fun h'' he' sb => ?_⟩
    have hT2 : h''.get? s.heap.objs.size = some { cls := .type "tuple", data := .seq #[.int i tk, x] } := (sb.2 _ (Nat.ne_of_gt szE)).trans hT
    have okN : ObjOk X.prog X.w (upd H s.heap.objs.size (.tup [.int (i : Nat), y])) h'' s.heap.objs.size (.tup [.int (i : Nat), y]) :=
      ⟨by show 2 ≤ sizeLine; decide, [.int i tk, x], .cons ⟨_, rfl⟩ (.cons ru .nil), ⟨_, hT2, rfl, _, rfl⟩⟩
    have J : Inv X pins σ (upd H s.heap.objs.size (.tup [.int (i : Nat), y])) { s with heap := h'', toks := tk + 1 } :=
      I.turnedNew (ch := [e, it]) (fun b ob hb z => (sb.2 b (fun y => hb (by simp [y]))).trans (hk b ob (fun y => hb (by simp [y])) (fun y => hb (by simp [y])) z)) hf (Nat.le_refl _) okN
    refine ⟨.ref s.heap.objs.size, _, J, rfl, ⟨_, y, rfl, I.hok.fresh (Nat.le_refl _), rfl, fun zs hs => by rw [I.tuple_inj hs hq]; exact hy⟩, ⟨⟨x, ?_⟩, ?_, ne, nai, nae⟩, fun b hb => ?_⟩
    · rw [show ((i + 1 : Nat) : Int) = (i : Int) + 1 by omega]
      exact he'
    · obtain ⟨o, ho2, r⟩ := hit2
      exact ⟨o, (sb.2 it (Ne.symm ne)).trans ho2, r⟩
    · rw [upd_ne (Nat.ne_of_lt (small b hb))]
      exact (hf b hb).1
  done := by
    intro X hP hw hK hc i pins s σ H E I hf st hg
    subst hP hw hK
    obtain ⟨⟨old, he⟩, hit, ne, nai, nae⟩ := st
    obtain ⟨ys, hq, hle⟩ := hg
    obtain ⟨its, rv, p, hz⟩ := I.tuple hq
    have len : its.toArray.size = i := by
      have := rv.length
      simp
      omega
    obtain ⟨g0, g1, _, g3, g4, g5⟩ := hf it (by simp)
    rw [← len] at hit
    have D := Draws.tuple (prog := X.prog) (w := X.w) (A := X.A.in1) (I.ok.hd hc) it a nai its.toArray
    exact wpAny_pyNext_enum_endD D he ⟨hit, p⟩ fun h' eb => ⟨rfl, I.turned (t' := s.toks) (fun b o hb z => eb b o hb z) g0 g1 g3 g4 g5⟩
  self := fun A i s Q E st h => by
    obtain ⟨⟨_, he⟩, _⟩ := st
    exact wpAny_pyIter_enum he h
def iEnumT (K : PySem.W.Frag) (ta : TA) : TI := fun σ H R => ta σ H fun vs H1 => ∃ a ys, vs = [.ref a] ∧ SqT K H1 a ys ∧ R (IteT K a) H1
theorem pi_enumT {X : Cx} {e : Expr} {ta : TA} {p pos tp : Pos} {elts : List Expr} {kk : Nat} (hg : Gl X "enumerate") (hm : X.mg "enumerate" = none) (ha : PA X [e] ta) (hs : starEach [e] X.env = [(false, eval e X.env)] := by rfl) :
    PI X (.Tuple elts kk tp) (.Call (.Name "enumerate" p) [e] [] pos) (iEnumT X.K ta) := by
  refine ⟨fun pins s σ H R I h => Call_ (ld_blt I hg hm boot_enumerate (PyProof.Rows.callWith_type1 (thn (ha.run pos pins s σ H _ I h) fun us s1 ⟨vs, H1, I1, r1, q1⟩ => ?_) hs rfl))⟩
  obtain ⟨a, ys, rfl, hq, q⟩ := q1
  cases r1 with
  | cons r rr =>
    cases rr
    cases r
    obtain ⟨its, rv, p', hz⟩ := I1.tuple hq
    have hp' : s1.heap.IsTuple a its.toArray := p'
    have old : a < s1.heap.objs.size := by
      obtain ⟨o, ho, _⟩ := hp'
      exact Heap.lt_size ho
    refine call_enumT hp' fun h' he hit hk => wpAny_pyIter_enum he ?_
    refine ⟨s1.heap.objs.size + 1, [s1.heap.objs.size + 1, s1.heap.objs.size], _, _, H1, rfl, I1.kept (t' := s1.toks) hk, turn_enumT a (s1.heap.objs.size + 1) s1.heap.objs.size,
      ⟨⟨.none, he⟩, hit, Nat.succ_ne_self _, Nat.ne_of_lt old, Nat.ne_of_lt (Nat.lt_succ_of_lt old)⟩, fun b hb => ?_, q⟩
    have hle : s1.heap.objs.size ≤ b := by
      rcases (show b = s1.heap.objs.size + 1 ∨ b = s1.heap.objs.size by simpa using hb) with rfl | rfl
      · exact Nat.le_succ _
      · exact Nat.le_refl _
    exact I1.fpOk hle (I1.hok.fresh hle)
theorem walk_enumT {K : PySem.W.Frag} {a : Addr} {xs : List V} : Walk (IteT K a) xs.length (fun H => SqT K H a xs) (YPair (fun i => some (.int (i : Nat))) (fun i => xs[i]?)) :=
  ⟨fun i H hi h => ⟨xs, _, h, List.getElem?_eq_getElem hi⟩, fun H h => ⟨xs, h, rfl⟩, fun i H v H' hi h y => by
    obtain ⟨p, z, rfl, np, rfl, hz⟩ := y
    exact ⟨p, _, z, rfl, np, rfl, rfl, hz xs h⟩⟩
end L2

/-! ### f(e, .., k = v, ..) in a try -/
namespace L2
open PySem PySem.Spec PyProof.Rows
def tCallNS (n m : Nat) (sp : Sp) (gV : List V → List V → List V) (E : St → XK) (t tk : TA) : TE := fun σ H Q => t σ H fun vs H1 => tk σ H1 fun zs H2 => vs.length = n ∧ zs.length = m ∧ sp (gV vs zs) H2 Q (E σ)
section
variable {X : Cx} {CX : CXT} {k n : Nat} {f : Addr} {fd : FuncData} {ps ks : List Str} {sp : Sp} {E : St → XK} {x : Str} {p pos : Pos} {e : Expr} {es : List Expr} {kws : List Keyword} {t tk : TA} {g : List Value → List Value → List Value} {gV : List V → List V → List V}
theorem run_fnNS {pins : List (Addr × Obj)} {σ : St} {H : Hp} {s : Shared} {Q : VK} {us ws : List Value} {vs zs : List V} (F : FnOk X.prog X.w X.K X.mg X.base CX k f fd ps sp) (hr : Room k X.A) (hb : KBn X.K fd ps n ks g gV) (hx : PassesAt CX X σ (E σ))
    (I : Inv X pins σ H s) (r : Vals vs us) (rz : Vals zs ws) (l1 : vs.length = n) (l2 : zs.length = ks.length) (h : sp (gV vs zs) H Q (E σ)) : wpAny (model X.prog X.w) X.A (call (.ref f) us (ks.zip ws)) (EP X pins σ Q) X.xe s := by
  have r2 := hb.rel r rz
  refine wpAny_call (codeAny_mono (F.run X.A X.stack s H ⟨us, ks.zip ws⟩ (g us ws) (gV vs zs) Q (E σ) hr I.env0 (hb.to s us ws I.kIn (r.length.symm.trans l1) (rz.length.symm.trans l2)) r2 h) fun r s' hq => ?_)
  cases r with
  | error e => exact hx pins H s e s' I hq
  | ok fl =>
    cases fl with
    | ret u => exact I.after hq
    | next => exact False.elim hq
    | brk => exact False.elim hq
    | cont => exact False.elim hq
theorem pe_callNS (F : FnOk X.prog X.w X.K X.mg X.base CX k f fd ps sp) (hr : Room k X.A) (hg : Gl X x) (hm : X.mg x = some (.ref f)) (hk : PySem.W.keepIn X.K (.ref f) = true) (hb : KBn X.K fd ps n ks g gV) (hx : ∀ σ, PassesAt CX X σ (E σ))
    (ha : PA X (e :: es) t) (hkw : PK X kws tk) (hall : (backToKw pos (keywordEach kws X.env)).all (·.1.isSome) = true := by rfl) (hks : (backToKw pos (keywordEach kws X.env)).filterMap (·.1) = ks := by rfl)
    (hdb : (x == ("__debug__" : Str)) = false := by decide) (he : starEach (e :: es) X.env = (false, eval e X.env) :: starEach es X.env := by rfl)
    (hpl : ((backTo pos (starEach (e :: es) X.env)).any (·.1) || (backToKw pos (keywordEach kws X.env)).any (·.1.isNone)) = false := by rfl) :
    PE X (.Call (.Name x p) (e :: es) kws pos) (tCallNS n ks.length sp gV E t tk) := by
  refine ⟨fun pins s σ H Q I h => ?_⟩
  refine wpAny_Call_Name_kw (ld_glob I hg hm ?_ hdb)
  refine PySem.W.callWith_KW (h₀ := X.base) I.ok.mod.kin hk hall (thn (ha.run pos pins s σ H _ I h) fun us s1 ⟨vs, H1, I1, r, q⟩ => ?_) hpl he
  refine thn (hkw.run pos pins s1 σ H1 _ I1 q) fun ws s2 ⟨zs, H2, I2, rz, l1, l2, q2⟩ => ⟨I2.kIn, ?_⟩
  rw [hks]
  exact run_fnNS F hr hb (hx σ) I2 r rz l1 l2 q2
end
end L2

/-! ### tuple * n for n = 0 and n = 1 -/
namespace L2
open PySem PySem.Spec PyProof.Rows
theorem tuple_mulX (l : Addr) (items : Array Value) (n : Nat) (dd : Option Addr) (sl : Array (Option Value)) (x : Int) (u : Tok) (c0 : (decide (x < -(2 ^ 63)) || decide (x ≥ 2 ^ 63)) = false) (c1 : (items.isEmpty || x == 1) = true) :
    Meets (Builtin.«tuple.__mul__» ⟨[.ref l, .int x u], []⟩) (fun _ R s => s.heap.get? l = some { cls := .type "tuple", dict := dd, data := .seq items n, slots := sl } ∧ R (.ok (.ret (Value.ref l))) s) :=
  .of_wp fun prog w A R s h => by
    obtain ⟨hp, g, d, tk, os⟩ := s
    obtain ⟨hl, h⟩ := h
    have f1 := AutoSeq1.idx_int
    wp_walk using wpAny_loadPart' hl
    repeat (first
      | (refine wpAny_ite_false (decide_eq_false (by rw [c0]; exact Bool.false_ne_true)) ?_; wp_walk using wpAny_loadPart' hl)
      | (refine wpAny_ite_true (decide_eq_true c1) ?_; wp_walk using wpAny_loadPart' hl))
    exact ⟨_, rfl, h⟩
theorem tuple_mulZ (l : Addr) (items : Array Value) (n : Nat) (dd : Option Addr) (sl : Array (Option Value)) (x : Int) (u : Tok) (c0 : (decide (x < -(2 ^ 63)) || decide (x ≥ 2 ^ 63)) = false) (c1 : (items.isEmpty || x == 1) = false) (c2 : (decide (x ≤ 0) || items.isEmpty) = true) :
    Meets (Builtin.«tuple.__mul__» ⟨[.ref l, .int x u], []⟩) (fun _ R s => s.heap.get? l = some { cls := .type "tuple", dict := dd, data := .seq items n, slots := sl } ∧
      R (.ok (.ret (Value.ref s.heap.objs.size))) { s with heap := s.heap.push { cls := Value.type "tuple", data := Data.seq #[] }, toks := s.toks }) :=
  .of_wp fun prog w A R s h => by
    obtain ⟨hp, g, d, tk, os⟩ := s
    obtain ⟨hl, h⟩ := h
    have f1 := AutoSeq1.idx_int
    wp_walk using wpAny_loadPart' hl
    repeat (first
      | (refine wpAny_ite_false (decide_eq_false (by rw [c0]; exact Bool.false_ne_true)) ?_; wp_walk using wpAny_loadPart' hl)
      | (refine wpAny_ite_false (decide_eq_false (by rw [c1]; exact Bool.false_ne_true)) ?_; wp_walk using wpAny_loadPart' hl)
      | (refine wpAny_ite_true (decide_eq_true c2) ?_; wp_walk using wpAny_loadPart' hl))
    exact ⟨_, rfl, h⟩
def rRepA (K : PySem.W.Frag) : R2 := fun x y H Q => ∃ l k xs, x = .ref l ∧ y = .int k ∧ SqT K H l xs ∧ xs ≠ [] ∧ 0 ≤ k ∧ k ≤ 1000 ∧ xs.length ≤ 1000 ∧ (k = 1 → Q (.ref l) H) ∧ (k ≠ 1 → ∀ p, H p = none → Q (.ref p) (upd H p (.tup (List.replicate k.toNat xs).flatten)))
section
variable {X : Cx}
theorem op_repA : OpR X (binaryOp .Mult) (rRepA X.K) := by
  intro pins s σ H x y v u Q I rx ry h
  obtain ⟨l, k, xs, rfl, rfl, hT, hne, h1, h2, hz, q1, q⟩ := h
  by_cases big : 2 ≤ k
  · exact op_repT pins s σ H _ _ v u Q I rx ry ⟨l, k, xs, rfl, rfl, hT, hne, big, h2, hz, q (by omega)⟩
  cases rx
  obtain ⟨t, rfl⟩ := ry
  obtain ⟨its, r, ⟨⟨cls, dd, data, sl⟩, ho, hc, n, hd⟩, hs⟩ := I.tuple hT
  simp only at hc hd
  subst hc hd
  have hle : its.length = xs.length := r.length.symm
  have hn : its ≠ [] := fun e => hne (by
    rw [e] at hle
    exact List.eq_nil_of_length_eq_zero hle.symm)
  have hi : its.toArray.isEmpty = false := by
    cases its with
    | nil => exact absurd rfl hn
    | cons a b => rfl
  have c0 : (decide (k < -(2 ^ 63)) || decide (k ≥ 2 ^ 63)) = false := by
    rw [decide_eq_false (by omega), decide_eq_false (by omega)] <;> rfl
  by_cases one : k = 1
  · have c1 : (its.toArray.isEmpty || k == 1) = true := by
      rw [hi, Bool.false_or]
      exact beq_iff_eq.mpr one
    exact wpAny_binaryOp_repeat_ref (T := "tuple") (U := "int") (by decide) ⟨_, ho, rfl⟩ (fun s' => typeIs_int s' k t) noFill_tuple_mul F.fills_int_mul F.slot_int_rmul repeat_tuple F.slot_int_index.lookup
      (call_meets F.slot_int_rmul (typeIs_int s k t) F.entry_int_rmul (F.args_int_rmul_2 _ _) (int_rmul_tuple k t l its.toArray n dd sl)
        ⟨ho, rfl, ⟨_, ho, rfl⟩, call_meets F.slot_tuple_mul ⟨_, ho, rfl⟩ F.entry_tuple_mul (F.args_tuple_mul_2 _ _) (tuple_mulX l its.toArray n dd sl k t c0 c1) ⟨ho, ⟨.ref l, H, I, rfl, q1 one⟩⟩⟩)
  · have zero : k = 0 := by omega
    have c1 : (its.toArray.isEmpty || k == 1) = false := by
      rw [hi, Bool.false_or]
      exact beq_eq_false_iff_ne.mpr one
    have c2 : (decide (k ≤ 0) || its.toArray.isEmpty) = true := by
      rw [hi, Bool.or_false]
      exact decide_eq_true (by omega)
    refine wpAny_binaryOp_repeat_ref (T := "tuple") (U := "int") (by decide) ⟨_, ho, rfl⟩ (fun s' => typeIs_int s' k t) noFill_tuple_mul F.fills_int_mul F.slot_int_rmul repeat_tuple F.slot_int_index.lookup
      (call_meets F.slot_int_rmul (typeIs_int s k t) F.entry_int_rmul (F.args_int_rmul_2 _ _) (int_rmul_tuple k t l its.toArray n dd sl)
        ⟨ho, rfl, ⟨_, ho, rfl⟩, call_meets F.slot_tuple_mul ⟨_, ho, rfl⟩ F.entry_tuple_mul (F.args_tuple_mul_2 _ _) (tuple_mulZ l its.toArray n dd sl k t c0 c1 c2) ⟨ho, ?_⟩⟩)
    refine ⟨.ref s.heap.objs.size, _, I.laid (t' := s.toks) (o := .tup (List.replicate k.toNat xs).flatten) (fun b ob q => Heap.get?_push_of_some _ q) (Nat.le_refl _) ?_, rfl, q one _ (I.hok.fresh (Nat.le_refl _))⟩
    rw [zero]
    exact ⟨Nat.zero_le _, [], .nil, IsTup.new _ _⟩
end
end L2

namespace T
open PySem PySem.Spec PyProof.Rows L2
def SameBut (a : Addr) (H H' : Hp) : Prop := ∀ b o, b ≠ a → H b = some o → H' b = some o
theorem SameBut.refl (a : Addr) (H : Hp) : SameBut a H H := fun _ _ _ h => h
theorem SameBut.trans {a : Addr} {H H1 H2 : Hp} (x : SameBut a H H1) (y : SameBut a H1 H2) : SameBut a H H2 := fun b o n h => y b o n (x b o n h)
theorem SameBut.upd {a : Addr} {H : Hp} {o : HO} : SameBut a H (upd H a o) := fun b u n h => by rw [upd_ne n]; exact h
theorem SameBut.new {a p : Addr} {H : Hp} {o : HO} (h : H p = none) : SameBut a H (L2.upd H p o) := fun b u n e => by rw [upd_ne (ne_of_none e h)]; exact e
theorem Same.but {a : Addr} {H H' : Hp} (h : Same H H') : SameBut a H H' := fun b o _ e => h b o e
theorem same_upd {H : Hp} {p : Addr} {o : HO} (h : H p = none) : Same H (upd H p o) := fun b x e => by
  rw [upd_ne (ne_of_none e h)]
  exact e
theorem upd_self {H : Hp} {a : Addr} {o : HO} (h : H a = some o) : upd H a o = H := by
  funext b
  unfold upd
  by_cases e : b = a
  · rw [if_pos e, e, h]
  · rw [if_neg e]
theorem Same.mut {H H' : Hp} {p : Addr} {o : HO} (e : Same H H') (h : H p = none) : Same H (upd H' p o) := fun a u ha => by
  rw [upd_ne (ne_of_none ha h)]
  exact e a u ha
theorem map_int_get {ns : List Int} {i : Nat} {y : V} (hi : (ns.map V.int)[i]? = some y) : ∃ z, ns[i]? = some z ∧ y = V.int z := by
  rw [List.getElem?_map] at hi
  cases e : ns[i]? with
  | none =>
    rw [e] at hi
    cases hi
  | some z =>
    rw [e] at hi
    exact ⟨z, rfl, (Option.some.inj hi).symm⟩
theorem small_of {n : Nat} (h : n ≤ 100000) : n < sizeLine := Nat.lt_of_le_of_lt h (by decide)
structure ErrC (K : PySem.W.Frag) (mg : Str → Option Value) (x : Str) (C : Addr) : Prop where
  gc : mg x = some (.ref C)
  xC : PySem.W.excIn K C [.type "ValueError", .type "Exception", .type "BaseException", .type "object"] "ValueError.__new__" = true
  kc : PySem.W.keepIn K (.ref C) = true
  bc : PySem.W.subIn K (.ref C) (.type "BaseException") = some true
  tc : PySem.W.typeIn K (.ref C) = some (.type "type")
/-- a def whose defaults stand somewhere (called with all its arguments) -/
structure FunA (K : PySem.W.Frag) (x qual : Str) (st : Stmt) (f : Addr) (fd : FuncData) : Prop where
  ex : ∃ (oc : Value) (od : Option Addr) (dV kV doc pm : Value) (an : Option Addr) (cdv ct : Value) (osl : Array (Option Value)),
    fd = PySem.W.fnOf x qual (defArgs st) (defBody st) (defScope st) dV kV doc pm an cdv ct ∧ K.lookup f = some ⟨oc, od, .func fd, osl⟩ ∧ PySem.W.codeIn K cdv qual = true
  kp : PySem.W.keepIn K (.ref f) = true
section
variable {P : Program} {w : World} {K : PySem.W.Frag} {mg : Str → Option Value} {base : Heap}
theorem FunA.okX {x qual : Str} {st : Stmt} {f : Addr} {fd : FuncData} {N ps : List Str} {k : Nat} {sp : Sp} (F : FunA K x qual st f fd) (S : FnScope N ps (defScope st)) (len : ∀ vs H Q E, sp vs H Q E → vs.length = ps.length)
    (hbody : ∀ (cdv : Value) (A : Around) (outer : List Env) (s : Shared) (H : Hp) (vs : List V) (Q : VK) (E : XK), Room k (A.deeper (envOfC qual (defScope st) s.heap.objs.size f cdv)) → sp vs H Q E →
      ∃ t, PSs (cxOf (L2.CX P w) P w K mg base N qual (defScope st) f cdv A outer s H E) (defBody st) t ∧ t { nx := fun _ H' => Q .non H', rt := Q } (start N vs) H) : FnOk P w K mg base (L2.CX P w) (k + 1) f fd ps sp := by
  obtain ⟨oc, od, dV, kV, doc, pm, an, cdv, ct, osl, rfl, lk, hcd⟩ := F.ex
  exact fn_of lk hcd S len fun A outer s H vs Q E hr hsp => hbody cdv A outer s H vs Q E hr hsp
end
theorem if_pos_of {b : Bool} {A B : Prop} (h : b = true) (x : A) : if b = true then A else B := by
  rw [if_pos h]
  exact x
theorem if_neg_of {b : Bool} {A B : Prop} (h : ¬ b = true) (x : B) : if b = true then A else B := by
  rw [if_neg h]
  exact x
theorem sqT_same {K : PySem.W.Frag} {H H' : Hp} {a : Addr} {xs : List V} (e : Same H H') (h : SqT K H a xs) : SqT K H' a xs := by
  rcases h with (h | ⟨o, h⟩) | h
  · exact .inl (.inl (e _ _ h))
  · exact .inl (.inr ⟨o, e _ _ h⟩)
  · exact .inr h
section
variable {P : Program} {w : World} {K : PySem.W.Frag} {mg : Str → Option Value} {base : Heap}
theorem room64 {k : Nat} {A : Around} (hr : Room k A) : A.units + 64 < cLine := by have := hr.un; omega
theorem room65 {k : Nat} {A : Around} (hr : Room k A) : A.units + 65 < cLine := by have := hr.un; omega
theorem inV_primes {p : Int} : inV (.int p) [.int 2, .int 3, .int 5, .int 7, .int 11, .int 13, .int 17, .int 19, .int 23, .int 29, .int 31] = inV (.int p) (primes.map V.int) := rfl
end
theorem sqT_but {K : PySem.W.Frag} {H H' : Hp} {r a : Addr} {xs : List V} (e : SameBut r H H') (n : a ≠ r) (h : SqT K H a xs) : SqT K H' a xs := by
  rcases h with (h | ⟨o, h⟩) | h
  · exact .inl (.inl (e _ _ n h))
  · exact .inl (.inr ⟨o, e _ _ n h⟩)
  · exact .inr h
theorem at_tab {xs : List Int} {i : Int} (h0 : 0 ≤ i) (h1 : i < xs.length) : atI (xs.map V.int) i = some (.int (xs.getD i.toNat 0)) := by
  obtain ⟨n, rfl⟩ := Int.eq_ofNat_of_zero_le h0
  have hn : n < xs.length := by omega
  refine atI_nat ?_
  rw [List.getElem?_map, List.getElem?_eq_getElem hn, List.getD_eq_getElem?_getD, show ((n : Nat) : Int).toNat = n from rfl, List.getElem?_eq_getElem hn]
  rfl
theorem mod_lt8 (n : Int) {m : Int} (h : 0 < m) : 0 ≤ n % m ∧ n % m < m := ⟨Int.emod_nonneg _ (by omega), Int.emod_lt_of_pos _ h⟩
def wtab : List Int := [0, 0, 0, 2, 3, 5, 7, 31]
theorem wtab_in : ∀ k : Nat, k < 8 → wtab.getD k 0 = 0 ∨ (wtab.getD k 0 ≠ 0 ∧ inV (.int (wtab.getD k 0)) (primes.map V.int) = true ∧ 2 ≤ wtab.getD k 0) := by decide
/-! ### isinstance of the error that an except suite holds -/
def rIsE' (K : PySem.W.Frag) (cls : Value) (d : Option Addr) (a : Addr) : List V → Hp → VK → Prop := fun xs H Q => ∃ D : Addr, cls = .ref D ∧ d = none ∧ ExcC K D ∧ rIsE K D a xs H Q
theorem call_isE' {X : Cx} {a : Addr} {oe : Obj} {pn : List (Addr × Obj)} {cls : Value} {d : Option Addr} (hz : Zc cls d oe) (hf : ∃ vs, oe.data = .fields vs) : CallR (X.suite a ((a, oe) :: pn)) (.builtin "isinstance") (rIsE' X.K cls d a) := by
  intro pins s σ H xs us Q I r h
  obtain ⟨D, rfl, rfl, C, h⟩ := h
  exact call_isE C hz hf pins s σ H xs us Q I r h
theorem pe_indexK {X : Cx} {K : PySem.W.Frag} {o e : Expr} {to : TE} {t : TA} {apos cpos : Pos} (hK : X.K = K) (ho : PE X o to) (ha : PA X [e] t)
    (hb : attributeBase o "index" X.env (eval o X.env) = eval o X.env := by rfl)
    (hf : ((backTo cpos (starEach [e] X.env)).all (fun x => !x.1) && (backToKw cpos (keywordEach [] X.env)).all (fun x => x.1.isSome) && decide ([e].length + ([] : List Keyword).length + (if ([] : List Keyword).isEmpty then 0 else 1) < 30)) = true := by rfl)
    (hl : (apos.endLine == cpos.line) = true := by rfl) (hs : starEach [e] X.env = (false, eval e X.env) :: starEach [] X.env := by rfl) (hp : (backTo cpos (starEach [] X.env)).any (·.1) = false := by rfl) :
    PE X (.Call (.Attribute o "index" apos) [e] [] cpos) (tBM K "list" (rIndex K) to t) := by
  subst hK
  exact pe_bm PySem.F.plainAttrs_list PySem.F.slot_list_index PySem.F.type_list_index mt_index ho ha hb hf hl hs hp
/-! ### values without depth -/
inductive Val1 (H : Hp) : V → PyData → Prop
  | non : Val1 H .non .none
  | bl (b : Bool) : Val1 H (.bl b) (.bool b)
  | str (x : Str) : Val1 H (.str x) (.str x)
  | pair {t : Addr} {u v : Int} : H t = some (.tup [.int u, .int v]) → Val1 H (.ref t) (.tuple [.int u, .int v])
theorem Val1.dp {K : PySem.W.Frag} {H : Hp} {x : V} {d : PyData} (h : Val1 H x d) : Dp K H x d := by
  cases h with
  | non => exact .non
  | bl b => exact .bl b
  | str x => exact .str x
  | pair h => exact .tup (.inl (.inl h)) (.cons (.int _) (.cons (.int _) .nil))
theorem Val1.but {H H' : Hp} {D : Addr} {ys : List V} {x : V} {d : PyData} (s : SameBut D H H') (hD : H D = some (.lst ys)) (h : Val1 H x d) : Val1 H' x d := by
  cases h with
  | non => exact .non
  | bl b => exact .bl b
  | str x => exact .str x
  | pair h => exact .pair (s _ _ (ne_of h hD (fun z => nomatch z)) h)
theorem Val1.same {H H' : Hp} {x : V} {d : PyData} (s : Same H H') (h : Val1 H x d) : Val1 H' x d := by
  cases h with
  | non => exact .non
  | bl b => exact .bl b
  | str x => exact .str x
  | pair h => exact .pair (s _ _ h)
theorem vals1_dp {K : PySem.W.Frag} {H : Hp} : ∀ {xs : List V} {ds : List PyData}, Paired (Val1 H) xs ds → DpAll K H xs ds
  | _, _, .nil => .nil
  | _, _, .cons a b => .cons a.dp (vals1_dp b)
theorem paired_snoc {α β : Type} {F : α → β → Prop} {a : α} {b : β} (h : F a b) : ∀ {l : List α} {m : List β}, Paired F l m → Paired F (l ++ [a]) (m ++ [b])
  | _, _, .nil => .cons h .nil
  | _, _, .cons x y => .cons x (paired_snoc h y)

/-- the first def of a class -/
def inCls : Stmt → Stmt
  | .ClassDef _ _ _ body _ _ _ _ _ _ _ => body.getD 0 (.Pass ⟨0, 0, 0, 0⟩)
  | s => s
theorem pt_truthK {X : Cx} {K : PySem.W.Frag} {a : Expr} {ta : TE} (hK : X.K = K) (ha : PE X a ta) (he : ∀ whole, isTrue a X.env whole = (do let v ← whole; standAt a.pos; holding [v] (truthy v))) :
    PT X a (fun σ H Q => ta σ H fun x H' => ∃ k, TruV K x H' k ∧ Q k H') := by
  subst hK
  exact pt_truth ha he
theorem op_in_seqK {X : Cx} {K : PySem.W.Frag} (hK : X.K = K) : OpR X (compareOp .In) (rIn K false) := by
  subst hK
  exact op_in_seq
theorem op_notIn_seqK {X : Cx} {K : PySem.W.Frag} (hK : X.K = K) : OpR X (compareOp .NotIn) (rIn K true) := by
  subst hK
  exact op_notIn_seq
theorem pi_listK {X : Cx} {K : PySem.W.Frag} {tg e : Expr} {te : TE} (hK : X.K = K) (he : PE X e te) : PI X tg e (iList K te) := by
  subst hK
  exact pi_list he

def topS (i : Nat) : Stmt := PySem.Challenge.pw_threadworth_k06_roots.main.body.getD i (.Pass ⟨0, 0, 0, 0⟩)
abbrev s_is_poly : Stmt := topS 8
theorem sc_is_poly : FnScope ["poly"] ["poly"] (defScope s_is_poly) := ⟨rfl, rfl, rfl, by decide +kernel, rfl, by decide +kernel, by decide +kernel⟩
abbrev s_check_poly : Stmt := topS 9
theorem sc_check_poly : FnScope ["poly"] ["poly"] (defScope s_check_poly) := ⟨rfl, rfl, rfl, by decide +kernel, rfl, by decide +kernel, by decide +kernel⟩
abbrev s_split_off_ : Stmt := topS 10
theorem sc_split_off_ : FnScope ["parts", "x", "sums", "worth", "part"] ["parts", "x"] (defScope s_split_off_) := ⟨rfl, rfl, rfl, by decide +kernel, rfl, by decide +kernel, by decide +kernel⟩
abbrev s_roots : Stmt := topS 11
theorem sc_roots : FnScope ["poly", "most", "found", "x", "many"] ["poly", "most"] (defScope s_roots) := ⟨rfl, rfl, rfl, by decide +kernel, rfl, by decide +kernel, by decide +kernel⟩
abbrev s_root_count_ : Stmt := topS 12
theorem sc_root_count_ : FnScope ["poly", "x", "many", "quotient", "worth"] ["poly", "x"] (defScope s_root_count_) := ⟨rfl, rfl, rfl, by decide +kernel, rfl, by decide +kernel, by decide +kernel⟩
abbrev s_law_plain : Stmt := topS 14
theorem sc_law_plain : FnScope ["cell"] ["cell"] (defScope s_law_plain) := ⟨rfl, rfl, rfl, by decide +kernel, rfl, by decide +kernel, by decide +kernel⟩
abbrev s_law_draws : Stmt := topS 15
theorem sc_law_draws : FnScope ["script", "draws", "cell", "rest", "k", "once", "twice"] ["script"] (defScope s_law_draws) := ⟨rfl, rfl, rfl, by decide +kernel, rfl, by decide +kernel, by decide +kernel⟩
abbrev s_law_next : Stmt := topS 16
theorem sc_law_next : FnScope ["draws"] ["draws"] (defScope s_law_next) := ⟨rfl, rfl, rfl, by decide +kernel, rfl, by decide +kernel, by decide +kernel⟩
abbrev s_law_cut : Stmt := topS 17
theorem sc_law_cut : FnScope ["parts", "size", "j"] ["parts"] (defScope s_law_cut) := ⟨rfl, rfl, rfl, by decide +kernel, rfl, by decide +kernel, by decide +kernel⟩
abbrev s_law_poly : Stmt := topS 18
theorem sc_law_poly : FnScope ["draws", "most", "j"] ["draws", "most"] (defScope s_law_poly) := ⟨rfl, rfl, rfl, by decide +kernel, rfl, by decide +kernel, by decide +kernel⟩
abbrev s_law_value : Stmt := topS 19
theorem sc_law_value : FnScope ["poly", "x", "total", "factor", "part"] ["poly", "x"] (defScope s_law_value) := ⟨rfl, rfl, rfl, by decide +kernel, rfl, by decide +kernel, by decide +kernel⟩
abbrev s_law_times : Stmt := topS 20
theorem sc_law_times : FnScope ["one", "other", "parts", "i", "j"] ["one", "other"] (defScope s_law_times) := ⟨rfl, rfl, rfl, by decide +kernel, rfl, by decide +kernel, by decide +kernel⟩
abbrev s_law_plus : Stmt := topS 21
theorem sc_law_plus : FnScope ["one", "other", "parts", "poly", "j"] ["one", "other"] (defScope s_law_plus) := ⟨rfl, rfl, rfl, by decide +kernel, rfl, by decide +kernel, by decide +kernel⟩
abbrev s_law_less : Stmt := topS 22
theorem sc_law_less : FnScope ["poly", "x", "parts", "carried", "j"] ["poly", "x"] (defScope s_law_less) := ⟨rfl, rfl, rfl, by decide +kernel, rfl, by decide +kernel, by decide +kernel⟩
abbrev s_law_due : Stmt := topS 23
theorem sc_law_due : FnScope ["poly", "most", "found", "x", "rest", "many", "j"] ["poly", "most"] (defScope s_law_due) := ⟨rfl, rfl, rfl, by decide +kernel, rfl, by decide +kernel, by decide +kernel⟩
abbrev s_law_told : Stmt := topS 24
theorem sc_law_told : FnScope ["poly", "most", "error", "kinds"] ["poly", "most"] (defScope s_law_told) := ⟨rfl, rfl, rfl, by decide +kernel, rfl, by decide +kernel, by decide +kernel⟩
abbrev s_law : Stmt := topS 25
theorem sc_law : FnScope ["script", "draws", "poly", "j", "most", "pair"] ["script"] (defScope s_law) := ⟨rfl, rfl, rfl, by decide +kernel, rfl, by decide +kernel, by decide +kernel⟩
structure SmL (n k : Nat) (D : PyData) : Prop where
  lay : D.canLay0 = true
  dep : D.depth ≤ n
  sho : D.showable = true
  wgt : wt D ≤ k
theorem smL_all {n k : Nat} : ∀ {ds : List PyData}, (∀ D ∈ ds, SmL n k D) → PyData.canLayAll0 ds = true ∧ PyData.depthAll ds ≤ n ∧ PyData.showableAll ds = true ∧ wtAll ds ≤ (k + 2) * ds.length
  | [], _ => ⟨by simp [PyData.canLayAll0], by simp [PyData.depthAll], by simp [PyData.showableAll], by simp [wtAll]⟩
  | D :: ds, h => by
    obtain ⟨h1, h2, h3, h4⟩ := smL_all (ds := ds) fun E hE => h E (List.mem_cons_of_mem _ hE)
    have g := h D List.mem_cons_self
    refine ⟨by simp [PyData.canLayAll0, g.lay, h1], ?_, by simp [PyData.showableAll, g.sho, h3], ?_⟩
    · simp only [PyData.depthAll]
      have := g.dep
      omega
    · simp only [wtAll, List.length_cons, Nat.mul_add]
      have := g.wgt
      omega
theorem smL_list {n k : Nat} {ds : List PyData} (h : ∀ D ∈ ds, SmL n k D) : SmL (n + 1) ((k + 2) * ds.length + 3) (.list ds) := by
  obtain ⟨h1, h2, h3, h4⟩ := smL_all h
  exact ⟨by simp [PyData.canLay0, h1], by simp only [PyData.depth]; omega, by simp [PyData.showable, h3], by simp only [wt]; omega⟩
theorem smL_tuple {n k : Nat} {ds : List PyData} (h : ∀ D ∈ ds, SmL n k D) : SmL (n + 1) ((k + 2) * ds.length + 3) (.tuple ds) := by
  obtain ⟨h1, h2, h3, h4⟩ := smL_all h
  exact ⟨by simp [PyData.canLay0, h1], by simp only [PyData.depth]; omega, by simp [PyData.showable, h3], by simp only [wt]; omega⟩
theorem SmL.shaped {n k : Nat} {D : PyData} (h : SmL n k D) (hn : n ≤ 64) : SeqAt.shaped D = true := by
  show (PyData.canLay0 D && decide (PyData.depth D ≤ 64)) = true
  rw [h.lay, decide_eq_true (Nat.le_trans h.dep hn)]
  rfl
theorem SmL.wide {n k : Nat} {D : PyData} (h : SmL n k D) (hk : k ≤ 16777216) : wt D ≤ sizeLine := by
  rw [sizeLine_eq]
  exact Nat.le_trans h.wgt hk
theorem small_log {i : Int} (h : i.natAbs < 2 ^ 200) : i.natAbs.log2 < 1920 := by
  by_cases e : i.natAbs = 0
  · rw [e]
    decide
  · exact (Nat.log2_lt e).mpr (Nat.lt_of_lt_of_le h (Nat.pow_le_pow_right (by decide) (by decide)))
theorem smL_int {i : Int} (h : i.natAbs < 2 ^ 200) : SmL 0 1921 (.int i) := ⟨by simp [PyData.canLay0], by simp [PyData.depth], by simp [PyData.showable, small_log h], by simp only [wt]; omega⟩
theorem smL_pair {u v : Int} (hu : u.natAbs < 2 ^ 200) (hv : v.natAbs < 2 ^ 200) : SmL 1 4000 (.tuple [.int u, .int v]) := by
  have h := smL_tuple (ds := [.int u, .int v]) (n := 0) (k := 1921) fun D hD => by
    rcases List.mem_cons.mp hD with rfl | hD
    · exact smL_int hu
    · rcases List.mem_cons.mp hD with rfl | hD
      · exact smL_int hv
      · cases hD
  exact ⟨h.lay, h.dep, h.sho, Nat.le_trans h.wgt (by show (1921 + 2) * 2 + 3 ≤ 4000; decide)⟩
theorem ok_n : PyData.strOk ("!n" : Str) = true := by decide +kernel
theorem ok_b : PyData.strOk ("!b" : Str) = true := by decide +kernel
theorem ok_w : PyData.strOk ("!w" : Str) = true := by decide +kernel
theorem rl_n : (reprText ("!n" : Str)).length = 4 := by decide +kernel
theorem rl_b : (reprText ("!b" : Str)).length = 4 := by decide +kernel
theorem rl_w : (reprText ("!w" : Str)).length = 4 := by decide +kernel
theorem smL_n : SmL 1 4000 (.str "!n") := ⟨by simp [PyData.canLay0, ok_n], by simp [PyData.depth], by simp [PyData.showable], by simp only [wt, rl_n]; omega⟩
theorem smL_b : SmL 1 4000 (.str "!b") := ⟨by simp [PyData.canLay0, ok_b], by simp [PyData.depth], by simp [PyData.showable], by simp only [wt, rl_b]; omega⟩
theorem smL_w : SmL 1 4000 (.str "!w") := ⟨by simp [PyData.canLay0, ok_w], by simp [PyData.depth], by simp [PyData.showable], by simp only [wt, rl_w]; omega⟩
theorem smL_non : SmL 1 4000 .none := ⟨by simp [PyData.canLay0], by simp [PyData.depth], by simp [PyData.showable], by simp only [wt]; omega⟩
theorem smL_bool (b : Bool) : SmL 1 4000 (.bool b) := ⟨by simp [PyData.canLay0], by simp [PyData.depth], by simp [PyData.showable], by simp only [wt]; omega⟩

section
variable {P : Program} {w : World} {K : PySem.W.Frag} {mg : Str → Option Value} {base : Heap}
/-! ### _law_plain -/
def spPlain : Sp := fun vs H Q _ => ∃ n : Int, vs = [.int n] ∧ Q (.int (if n < 0 then -n else n)) H
theorem ok_plain {f : Addr} {fd : FuncData} (F : Fun K "_law_plain" "_law_plain" s_law_plain f fd) : FnOk P w K mg base CX0 1 f fd ["cell"] spPlain := by
  refine F.ok sc_law_plain (fun vs H Q E h => ?_) (fun cdv A outer s H vs Q E hr h => ?_)
  · obtain ⟨n, rfl, _⟩ := h
    rfl
  · obtain ⟨n, rfl, q⟩ := h
    refine ⟨_, (pss_cons (ps_if (pt_cmpR op_lt (pv 0) pe_int (nomark _)) (pss_one (ps_ret (pe_op op_sub pe_int (pv 0)))) pss_nil)
  (pss_one (ps_ret (pv 0))))
    , ?_⟩
    refine ⟨_, rfl, _, _, rfl, rfl, _, rfl, ite2 (fun e => ?_) (fun e => ?_)⟩
    · rw [if_pos (of_decide_eq_true e)] at q
      have q' : Q (.int (0 - n)) H := by
        rw [show (0 : Int) - n = -n by omega]
        exact q
      exact ⟨_, rfl, _, _, rfl, rfl, q'⟩
    · rw [if_neg (fun z => e (decide_eq_true z))] at q
      exact ⟨_, rfl, q⟩
end

section
variable {P : Program} {w : World} {K : PySem.W.Frag} {mg : Str → Option Value} {base : Heap}
/-! ### _law_next -/
def spNext : Sp := fun vs H Q _ => ∃ (a : Addr) (ds : List Int), vs = [.ref a] ∧ H a = some (.lst (ds.map V.int)) ∧ ∀ (n : Int) (ds' : List Int), Q (.int n) (upd H a (.lst (ds'.map V.int)))
theorem ok_next {f : Addr} {fd : FuncData} (F : Fun K "_law_next" "_law_next" s_law_next f fd) : FnOk P w K mg base CX0 1 f fd ["draws"] spNext := by
  refine F.ok sc_law_next (fun vs H Q E h => ?_) (fun cdv A outer s H vs Q E hr h => ?_)
  · obtain ⟨a, ds, rfl, _⟩ := h
    rfl
  · obtain ⟨a, ds, rfl, hL, q⟩ := h
    refine ⟨_, (pss_cons (ps_if (pt_truth (pv 0) (by intro _; rfl)) (pss_one (ps_ret (pe_bm0 PySem.F.plainAttrs_list PySem.F.slot_list_pop PySem.F.type_list_pop mt_pop (pv 0)))) pss_nil)
  (pss_one (ps_ret pe_int)))
    , ?_⟩
    refine ⟨_, rfl, _, .inl ⟨_, .inl (.inl hL), rfl⟩, ite2 (fun e => ?_) (fun e => ?_)⟩
    · have hn : ds ≠ [] := fun z => by subst z; cases e
      have hm : ds.map V.int = ds.dropLast.map V.int ++ [V.int (ds.getLast hn)] := by
        rw [← List.map_singleton, ← List.map_append, List.dropLast_concat_getLast]
      refine ⟨_, rfl, .inl ⟨rfl, _, .inl (.inl hL)⟩, a, _, .int (ds.getLast hn), rfl, rfl, hL, ?_, ?_⟩
      · rw [hm]; simp
      · rw [hm, List.dropLast_concat]
        exact q _ _
    · have := q 0 ds
      rw [upd_self hL] at this
      exact this
end

section
variable {P : Program} {w : World} {K : PySem.W.Frag} {mg : Str → Option Value} {base : Heap}
/-! ### _law_draws -/
def spDraws (K : PySem.W.Frag) : Sp := fun vs H Q _ => ∃ (a : Addr) (ns : List Int), vs = [.ref a] ∧ SqL K H a (ns.map V.int) ∧ ns.length ≤ 63 ∧
  ∀ H' r (ds : List Int), Same H H' → H r = none → H' r = some (.lst (ds.map V.int)) → Q (.ref r) H'
theorem ok_draws {f : Addr} {fd : FuncData} {a_law_plain : Addr} {fd_law_plain : FuncData} (F : Fun K "_law_draws" "_law_draws" s_law_draws f fd) (z_range : mg "range" = none) (z_int : mg "int" = none)
    (G_law_plain : FnOk P w K mg base CX0 1 a_law_plain fd_law_plain ["cell"] spPlain) (g_law_plain : mg "_law_plain" = some (.ref a_law_plain)) (k_law_plain : PySem.W.keepIn K (.ref a_law_plain) = true) (b_law_plain : Binds K fd_law_plain ["cell"] []) :
    FnOk P w K mg base CX0 2 f fd ["script"] (spDraws K) := by
  refine F.ok sc_law_draws (fun vs H Q E h => ?_) (fun cdv A outer s H vs Q E hr h => ?_)
  · obtain ⟨n, _, rfl, _⟩ := h
    rfl
  · obtain ⟨a, ns, rfl, hS, hlen, q⟩ := h
    refine ⟨_, (pss_cons (ps_set (i := 1) sc_law_draws.nd rfl (.inl rfl) (pe_lst pa_nil))
  (pss_cons (ps_for PassesOwn.never rfl (pi_list (pv 0)) (pg_name (i := 2) sc_law_draws.nd rfl (.inl rfl)) (pss_cons (ps_set (i := 3) sc_law_draws.nd rfl (.inl rfl) (pe_call G_law_plain (hr.mono (by decide)) rfl g_law_plain k_law_plain b_law_plain .nil pass0 (pa_cons (pv 2) pa_nil)))
  (pss_one (ps_if (pt_cmpR op_ge (pv 3) pe_int (nomark _)) (pss_one (ps_for PassesOwn.never rfl (pi_range1 rfl z_range (pa_cons pe_int pa_nil)) (pg_name (i := 4) sc_law_draws.nd rfl (.inl rfl)) (pss_cons (ps_if (pt_cmpR op_eq (pv 3) pe_int (nomark _)) (pss_one ps_break) pss_nil)
  (pss_cons (ps_expr (pe_bm PySem.F.plainAttrs_list PySem.F.slot_list_append PySem.F.type_list_append mt_append (pv 1) (pa_cons (pe_op op_mod (pe_callTy call_int1 (by rfl) z_int boot_int (pa_cons (pv 3) pa_nil)) pe_int) pa_nil)))
  (pss_one (ps_set (i := 3) sc_law_draws.nd rfl (.inl rfl) (pe_op op_fdiv (pv 3) pe_int))))))) (pss_cons (ps_set (i := 5) sc_law_draws.nd rfl (.inl rfl) (pe_op op_mod (pe_callTy call_int1 (by rfl) z_int boot_int (pa_cons (pe_op op_add (pe_op op_mul (pv 3) pe_int) pe_int) pa_nil)) pe_int))
  (pss_cons (ps_set (i := 6) sc_law_draws.nd rfl (.inl rfl) (pe_op op_mod (pe_callTy call_int1 (by rfl) z_int boot_int (pa_cons (pe_op op_add (pe_op op_mul (pv 5) pe_int) (pv 3)) pa_nil)) pe_int))
  (pss_one (ps_expr (pe_bm PySem.F.plainAttrs_list PySem.F.slot_list_extend PySem.F.type_list_extend mt_extend (pv 1) (pa_cons (pe_lst (pa_cons (pe_op op_mod (pe_callTy call_int1 (by rfl) z_int boot_int (pa_cons (pv 3) pa_nil)) pe_int) (pa_cons (pe_op op_mod (pe_callTy call_int1 (by rfl) z_int boot_int (pa_cons (pv 5) pa_nil)) pe_int) (pa_cons (pe_op op_mod (pe_callTy call_int1 (by rfl) z_int boot_int (pa_cons (pv 6) pa_nil)) pe_int) pa_nil)))) pa_nil))))))))))
  (pss_one (ps_ret (pv 1)))))
    , ?_⟩
    refine ⟨Nat.zero_le _, fun o no => ?_⟩
    have s1 : Same H (upd H o (.lst [])) := same_upd no
    refine ⟨.ref a, rfl, a, rfl, ⟨_, s1.seq hS⟩, for_list (K := K) (a := a) (xs := ns.map V.int) (fun i σ H' => ∃ v2 v3 v4 v5 v6 ds, σ = [some (.ref a), some (.ref o), v2, v3, v4, v5, v6] ∧ Same H H' ∧ H' o = some (.lst (ds.map V.int)) ∧ ds.length ≤ 60 * i)
      ⟨none, none, none, none, none, [], rfl, s1, upd_same, Nat.le_refl _⟩ (fun i σ H' _ ⟨_, _, _, _, _, _, _, sm, _⟩ => sm.seq hS) ?_ ?_⟩
    · rintro i y σ H1 hi ⟨v2, v3, v4, v5, v6, ds, rfl, sm, hL, hl⟩
      have hi63 : i < 63 := by
        have := (List.getElem?_eq_some_iff.mp hi).1
        rw [List.length_map] at this
        omega
      obtain ⟨z, hz, rfl⟩ := map_int_get hi
      refine ⟨_, rfl, z, rfl, ?_⟩
      generalize hr0 : (if z < 0 then -z else z) = r0
      have h0 : 0 ≤ r0 := by
        subst hr0
        split <;> omega
      refine ⟨_, rfl, _, _, rfl, rfl, _, rfl, ite2 (fun e => ?_) (fun e => ?_)⟩
      · refine ⟨60, rfl, by decide, by decide, for_range (lo := 0) (n := 60) (fun j σ H' => ∃ r v4 ds', σ = [some (.ref a), some (.ref o), some (.int z), some (.int r), v4, v5, v6] ∧ 0 ≤ r ∧ Same H H' ∧ H' o = some (.lst (ds'.map V.int)) ∧ ds'.length ≤ 60 * i + j)
          ⟨r0, v4, ds, rfl, h0, sm, hL, hl⟩ ?_ ?_⟩
        · rintro j σ H2 hj ⟨r, v4', ds', rfl, hr0', sm2, hL2, hl2⟩
          refine ⟨_, rfl, rfl, _, rfl, ite2 (fun e1 => ?_) (fun e1 => ?_)⟩
          · exact ⟨_, _, _, _, _, ds', rfl, sm2, hL2, by omega⟩
          · refine ⟨.ref o, rfl, .inl ⟨rfl, _, .inl (.inl hL2)⟩, .int r, rfl, .inl ⟨r, rfl, r, 1000, rfl, rfl, (show (0:Int) < 1000 by decide), o, _, _, rfl, rfl, hL2, ?_, ?_⟩⟩
            · rw [List.length_map]
              exact small_of (by omega)
            · refine ⟨_, rfl, r, 1000, rfl, rfl, ⟨by decide, by decide⟩, ?_⟩
              refine ⟨r / 1000, _, ds' ++ [r % 1000], rfl, by omega, Same.mut sm2 no, ?_, ?_⟩
              · rw [upd_same, List.map_append]
                rfl
              · rw [List.length_append]
                show ds'.length + 1 ≤ _
                omega
        · rintro σ H2 ⟨r, v4', ds', rfl, hr0', sm2, hL2, hl2⟩
          exact ⟨_, _, _, _, _, ds', rfl, sm2, hL2, by omega⟩
      · have c1 : CMul r0 48271 := .inr ⟨by decide, by decide⟩
        refine ⟨.int r0, rfl, r0, 48271, rfl, rfl, c1, _, 11, rfl, rfl, .inl ⟨_, rfl, _, 2147483647, rfl, rfl, (show (0:Int) < 2147483647 by decide), ?_⟩⟩
        have c2 : ∀ x : Int, CMul x 69621 := fun _ => .inr ⟨by decide, by decide⟩
        refine ⟨_, rfl, _, 69621, rfl, rfl, c2 _, .int r0, rfl, _, r0, rfl, rfl, .inl ⟨_, rfl, _, 2147483629, rfl, rfl, (show (0:Int) < 2147483629 by decide), ?_⟩⟩
        have p1000 : (0:Int) < 1000 := by decide
        refine ⟨.ref o, rfl, .inl ⟨rfl, _, .inl (.inl hL)⟩, ?_⟩
        refine ⟨.int r0, rfl, .inl ⟨r0, rfl, r0, 1000, rfl, rfl, p1000, _, rfl, .inl ⟨_, rfl, _, 1000, rfl, rfl, p1000, _, rfl, .inl ⟨_, rfl, _, 1000, rfl, rfl, p1000, ?_⟩⟩⟩⟩
        refine ⟨(by show 3 ≤ sizeLine; decide), fun c nc => ?_⟩
        have hoc : o ≠ c := ne_of_none hL nc
        refine ⟨o, c, ds.map V.int, _, rfl, rfl, ?_, upd_same, ?_, ?_⟩
        · rw [upd_ne hoc]
          exact hL
        · rw [List.length_map]
          exact Nat.le_of_lt (small_of (show ds.length + 3 ≤ 100000 by omega))
        · refine ⟨_, _, _, _, _, ds ++ [r0 % 1000, (r0 * 48271 + 11) % 2147483647 % 1000, ((r0 * 48271 + 11) % 2147483647 * 69621 + r0) % 2147483629 % 1000], rfl, Same.mut (Same.trans sm (same_upd nc)) no, ?_, ?_⟩
          · rw [upd_same, List.map_append]
            rfl
          · rw [List.length_append]
            show ds.length + 3 ≤ _
            omega
    · rintro σ H1 ⟨v2, v3, v4, v5, v6, ds, rfl, sm, hL, hl⟩
      exact ⟨_, rfl, q H1 o ds sm no hL⟩
end

def isP (l : List Int) : Bool := if (l.length : Int) > 200 then false else if l.length = 0 then true else !decide (co l (l.length - 1) = 0)
theorem isP_pol {l : List Int} (h : isP l = true) : Pol l ∧ l.length ≤ 200 := by
  unfold isP at h
  by_cases c : (l.length : Int) > 200
  · rw [if_pos c] at h
    exact nomatch h
  rw [if_neg c] at h
  refine ⟨?_, by omega⟩
  by_cases c0 : l.length = 0
  · exact .inl (List.eq_nil_of_length_eq_zero c0)
  · rw [if_neg c0] at h
    refine .inr fun z => ?_
    rw [decide_eq_true z] at h
    exact nomatch h
theorem pol_isP {l : List Int} (h : Pol l) (hl : l.length ≤ 200) : isP l = true := by
  unfold isP
  rw [if_neg (by omega)]
  by_cases c0 : l.length = 0
  · rw [if_pos c0]
  · rw [if_neg c0]
    rcases h with rfl | h
    · exact absurd rfl c0
    · rw [decide_eq_false h]
      rfl
section
variable {P : Program} {w : World} {K : PySem.W.Frag} {mg : Str → Option Value} {base : Heap}
/-! ### is_poly, check_poly -/
def spIsPoly (K : PySem.W.Frag) : Sp := fun vs H Q _ => ∃ (a : Addr) (l : List Int), vs = [.ref a] ∧ SqT K H a (l.map V.int) ∧ Q (.bl (isP l)) H
theorem ok_is_poly {f : Addr} {fd : FuncData} {tm : Tok} (F : Fun K "is_poly" "is_poly" s_is_poly f fd) (z_len : mg "len" = none) (m_MOST_PARTS : mg "MOST_PARTS" = some (.int 200 tm)) : FnOk P w K mg base CX0 1 f fd ["poly"] (spIsPoly K) := by
  have r_MOST_PARTS : RelV (.int 200) (.int 200 tm) := ⟨_, rfl⟩
  refine F.ok sc_is_poly (fun vs H Q E h => ?_) (fun cdv A outer s H vs Q E hr h => ?_)
  · obtain ⟨a, l, rfl, _⟩ := h
    rfl
  · obtain ⟨a, l, rfl, ha, q⟩ := h
    refine ⟨_, (pss_cons (ps_if (pt_cmpR op_gt (pe_callB call_len_seq (by rfl) z_len boot_len (pa_cons (pv 0) pa_nil)) (pe_glob rfl m_MOST_PARTS r_MOST_PARTS) (nomark _)) (pss_one (ps_ret pe_bl)) pss_nil)
  (pss_one (ps_ret (pe_or (pe_cmpR op_eq (pe_callB call_len_seq (by rfl) z_len boot_len (pa_cons (pv 0) pa_nil)) pe_int (nomark _)) (pe_one (pe_cmpR op_ne (pe_ix ix_tup (pv 0) (pe_un un_neg pe_int) (fun _ _ => rfl)) pe_int (nomark _))))))), ?_⟩
    unfold isP at q
    refine ⟨_, rfl, a, _, rfl, .inr ha, _, _, rfl, rfl, _, rfl, ?_⟩
    rw [List.length_map]
    by_cases c : (l.length : Int) > 200
    · rw [if_pos c] at q
      rw [decide_eq_true c]
      exact iteT q
    rw [if_neg c] at q
    rw [decide_eq_false c]
    refine iteF ?_
    refine ⟨_, rfl, a, _, rfl, .inr ha, rfl, _, rfl, ?_⟩
    rw [List.length_map]
    by_cases c0 : l.length = 0
    · rw [if_pos c0] at q
      rw [decide_eq_true (show V.int ((l.length : Nat) : Int) = V.int 0 by rw [c0]; rfl)]
      exact iteT q
    · rw [if_neg c0] at q
      rw [decide_eq_false (fun z => c0 (by have := V.int.inj z; omega))]
      refine iteF ?_
      refine ⟨_, rfl, _, rfl, a, _, _, _, rfl, rfl, ha, at_end (fun z => c0 (by rw [z]; rfl)), rfl, ?_⟩
      have e : decide (V.int (co l (l.length - 1)) = V.int 0) = decide (co l (l.length - 1) = 0) := by
        by_cases c1 : co l (l.length - 1) = 0
        · rw [decide_eq_true c1, decide_eq_true (congrArg V.int c1)]
        · rw [decide_eq_false c1, decide_eq_false (fun z => c1 (V.int.inj z))]
      rw [e]
      exact q
def spCheckPoly (K : PySem.W.Frag) (CP : Addr) : Sp := fun vs H Q E => ∃ (a : Addr) (l : List Int), vs = [.ref a] ∧ SqT K H a (l.map V.int) ∧ (isP l = true → Q .non H) ∧ (isP l = false → E (.ref CP) none H)
theorem ok_check_poly {f CP a_is_poly : Addr} {fd fd_is_poly : FuncData} (F : Fun K "check_poly" "check_poly" s_check_poly f fd) (T : ErrC K mg "NotPoly" CP)
    (G_is_poly : FnOk P w K mg base CX0 1 a_is_poly fd_is_poly ["poly"] (spIsPoly K)) (g_is_poly : mg "is_poly" = some (.ref a_is_poly)) (k_is_poly : PySem.W.keepIn K (.ref a_is_poly) = true) (b_is_poly : Binds K fd_is_poly ["poly"] []) : FnOk P w K mg base (L2.CX P w) 2 f fd ["poly"] (spCheckPoly K CP) := by
  obtain ⟨gc_NotPoly, x_NotPoly, kc_NotPoly, bc_NotPoly, tc_NotPoly⟩ := T
  refine F.okX sc_check_poly (fun vs H Q E h => ?_) (fun cdv A outer s H vs Q E hr h => ?_)
  · obtain ⟨a, l, rfl, _⟩ := h
    rfl
  · obtain ⟨a, l, rfl, ha, q1, q2⟩ := h
    refine ⟨_, (pss_one (ps_if (pt_not (pt_val (pe_call G_is_poly (hr.mono (by decide)) rfl g_is_poly k_is_poly b_is_poly .nil pass0 (pa_cons (pv 0) pa_nil)))) (pss_one (ps_raise rfl (takes_of rfl rfl rfl rfl) (pmk_own PySem.F.excBase_ValueError x_NotPoly gc_NotPoly kc_NotPoly (raises_own bc_NotPoly tc_NotPoly) rfl))) pss_nil)), ?_⟩
    refine ⟨_, rfl, a, l, rfl, ha, _, rfl, ?_⟩
    cases e : isP l with
    | true => exact iteF (q1 e)
    | false => exact iteT (q2 e)
end

theorem sqL_same {K : PySem.W.Frag} {H H' : Hp} {a : Addr} {xs : List V} (e : Same H H') (h : SqL K H a xs) : SqL K H' a xs := by
  rcases h with (h | ⟨o, h⟩) | h
  · exact .inl (.inl (e _ _ h))
  · exact .inl (.inr ⟨o, e _ _ h⟩)
  · exact .inr h
theorem none_back {H H' : Hp} {a : Addr} (s : Same H H') (h : H' a = none) : H a = none := by
  cases e : H a with
  | none => rfl
  | some o =>
    rw [s _ _ e] at h
    exact nomatch h

theorem cut_to {l : List Int} {s : Nat} (h : s ≤ l.length) : cutV (l.map V.int) none (some (s : Int)) = (l.take s).map V.int := by
  unfold cutV
  rw [HT.sIx_none, HT.sIx_nat, List.length_map, Nat.min_eq_left h, List.drop_zero, Nat.sub_zero, ← List.map_take]
/-- no more than zeros from s on -/
def Zs (l : List Int) (s : Nat) : Prop := s ≤ l.length ∧ ∀ i, s ≤ i → co l i = 0
theorem zs_all (l : List Int) : Zs l l.length := ⟨Nat.le_refl _, fun i h => co_ge h⟩
theorem zs_less {l : List Int} {s : Nat} (h : Zs l s) (hs : 0 < s) (h0 : co l (s - 1) = 0) : Zs l (s - 1) := by
  obtain ⟨h1, h2⟩ := h
  refine ⟨by omega, fun i hi => ?_⟩
  by_cases c : i = s - 1
  · rw [c]
    exact h0
  · exact h2 i (by omega)
/-- what a trimmed tuple is -/
structure Tr (l zs : List Int) : Prop where
  pol : Pol zs
  co : ∀ k, co zs k = T.co l k
  len : zs.length ≤ l.length
theorem tr_of {l : List Int} {s : Nat} (h : Zs l s) (h0 : s = 0 ∨ co l (s - 1) ≠ 0) : Tr l (l.take s) :=
  ⟨pol_take h.1 h0 h.2, fun _ => co_take h.2, by rw [List.length_take]; omega⟩
/-- one row more, j entries of it -/
def part (one other : List Int) (i j k : Nat) : Int := conv one other i k + (if i ≤ k ∧ k - i < j then co one i * co other (k - i) else 0)
theorem part_0 (one other : List Int) (i k : Nat) : part one other i 0 k = conv one other i k := by
  unfold part
  rw [if_neg (by omega), Int.add_zero]
theorem part_end (one other : List Int) (i k : Nat) : part one other i other.length k = conv one other (i + 1) k := by
  show _ = conv one other i k + row one other i k
  unfold part row
  by_cases c : i ≤ k
  · rw [if_pos c]
    by_cases c2 : k - i < other.length
    · rw [if_pos ⟨c, c2⟩]
    · rw [if_neg (fun z => c2 z.2), co_ge (l := other) (by omega), Int.mul_zero]
  · rw [if_neg c, if_neg (fun z => c z.1)]
theorem part_step (one other : List Int) (i j k : Nat) : part one other i (j + 1) k = if k = i + j then part one other i j k + co one i * co other j else part one other i j k := by
  unfold part
  by_cases c : k = i + j
  · rw [if_pos c, if_pos (by omega), if_neg (by omega), show k - i = j by omega, Int.add_zero]
  · rw [if_neg c]
    by_cases c2 : i ≤ k ∧ k - i < j
    · rw [if_pos c2, if_pos (by omega)]
    · rw [if_neg c2, if_neg (by omega)]
def prodLen (l m : List Int) : Nat := if l = [] ∨ m = [] then 0 else l.length + m.length - 1
theorem conv_lead {l m : List Int} (hl : l ≠ []) (hm : m ≠ []) : conv l m l.length (l.length + m.length - 2) = co l (l.length - 1) * co m (m.length - 1) := by
  have h1 := List.length_pos_iff.mpr hl
  have h2 := List.length_pos_iff.mpr hm
  rw [show l.length = (l.length - 1) + 1 by omega]
  show conv l m (l.length - 1) (l.length - 1 + 1 + m.length - 2) + row l m (l.length - 1) (l.length - 1 + 1 + m.length - 2) = _
  rw [conv_top l m (l.length - 1) (by omega) (by omega)]
  unfold row
  rw [if_pos (by omega), show l.length - 1 + 1 + m.length - 2 - (l.length - 1) = m.length - 1 by omega, Int.zero_add]
  rfl

def spCut (K : PySem.W.Frag) : Sp := fun vs H Q _ => ∃ (a : Addr) (l : List Int), vs = [.ref a] ∧ SqL K H a (l.map V.int) ∧ l.length ≤ 10000 ∧ ∀ t zs H', Same H H' → H t = none → H' t = some (.tup (zs.map V.int)) → Tr l zs → Q (.ref t) H'
section
variable {P : Program} {w : World} {K : PySem.W.Frag} {mg : Str → Option Value} {base : Heap}
/-! ### _law_cut -/
theorem ok_law_cut {f : Addr} {fd : FuncData} (F : Fun K "_law_cut" "_law_cut" s_law_cut f fd) (z_len : mg "len" = none) (z_tuple : mg "tuple" = none) (z_range : mg "range" = none) : FnOk P w K mg base CX0 1 f fd ["parts"] (spCut K) := by
  refine F.ok sc_law_cut (fun vs H Q E h => ?_) (fun cdv A outer s H vs Q E hr h => ?_)
  · obtain ⟨a, l, rfl, _⟩ := h
    rfl
  · obtain ⟨a, l, rfl, ha, hl, q⟩ := h
    refine ⟨_, (pss_cons (ps_set (i := 1) sc_law_cut.nd rfl (.inl rfl) (pe_callB call_len_seq (by rfl) z_len boot_len (pa_cons (pv 0) pa_nil)))
  (pss_cons (ps_for PassesOwn.never rfl (pi_range1 rfl z_range (pa_cons (pe_callB call_len_seq (by rfl) z_len boot_len (pa_cons (pv 0) pa_nil)) pa_nil)) (pg_name (i := 2) sc_law_cut.nd rfl (.inl rfl)) (pss_one (ps_if (L2.PW.pt (pw_and (pt_cmpR op_gt (pv 1) pe_int (nomark _)) (pw_and1 (pt_cmpR op_eq (pe_ix ix_list (pv 0) (pe_op op_sub (pv 1) pe_int) (fun _ _ => rfl)) pe_int (nomark _))))) (pss_one (ps_set (i := 1) sc_law_cut.nd rfl (.inl rfl) (pe_op op_sub (pv 1) pe_int))) pss_nil)))
  (pss_one (ps_ret (pe_callTy call_tuple_of (by rfl) z_tuple boot_tuple (pa_cons (pe_slice sl_list (pv 0) po_none (po_some (pv 1))) pa_nil)))))), ?_⟩
    refine ⟨_, rfl, a, _, rfl, .inl ha, ?_⟩
    refine ⟨_, rfl, a, _, rfl, .inl ha, ?_⟩
    rw [List.length_map]
    refine ⟨_, rfl, by omega, by omega, for_range (lo := 0) (n := l.length) (fun i σ H' => H' = H ∧ ∃ (m : Nat) (v2 : Option V), σ = [some (.ref a), some (.int (m : Int)), v2] ∧ Zs l m ∧ ((m = 0 ∨ co l (m - 1) ≠ 0) ∨ m + i ≤ l.length))
      ⟨rfl, l.length, none, rfl, zs_all l, .inr (Nat.le_refl _)⟩ (fun i σ H' hi hP => ?_) (fun σ H' hP => ?_)⟩
    · obtain ⟨rfl, m, v2, rfl, hz, hd⟩ := hP
      refine ⟨_, rfl, _, _, rfl, rfl, _, rfl, ?_⟩
      by_cases c : 0 < m
      · rw [decide_eq_true (show ((m : Nat) : Int) > 0 by omega)]
        refine iteT ?_
        have es : ((m : Nat) : Int) - 1 = ((m - 1 : Nat) : Int) := by omega
        refine ⟨_, rfl, _, rfl, _, _, rfl, rfl, a, _, _, _, rfl, rfl, ha, (by rw [es]; exact at_co (show m - 1 < l.length by have := hz.1; omega)), rfl, _, rfl, ?_⟩
        by_cases c0 : co l (m - 1) = 0
        · rw [decide_eq_true (congrArg V.int c0)]
          refine iteT ⟨_, rfl, _, _, rfl, rfl, rfl, m - 1, _, (by rw [← es]; rfl), zs_less hz c c0, .inr ?_⟩
          rcases hd with (hd | hd) | hd
          · omega
          · exact absurd c0 hd
          · omega
        · rw [decide_eq_false (fun z => c0 (V.int.inj z))]
          exact iteF ⟨rfl, m, _, rfl, hz, .inl (.inr c0)⟩
      · rw [decide_eq_false (show ¬ ((m : Nat) : Int) > 0 by omega)]
        exact iteF (iteF ⟨rfl, m, _, rfl, hz, .inl (.inl (by omega))⟩)
    · obtain ⟨rfl, m, v2, rfl, hz, hd⟩ := hP
      have h0 : m = 0 ∨ co l (m - 1) ≠ 0 := hd.elim id (fun z => .inl (by omega))
      refine ⟨_, rfl, _, rfl, _, rfl, a, _, rfl, ha, fun p np => ⟨p, _, rfl, .inl ⟨.inl (.inl upd_same), fun t nt => ?_⟩⟩⟩
      refine q t (l.take m) _ (Same.trans (same_upd np) (same_upd nt)) (none_back (same_upd np) nt) ?_ (tr_of hz h0)
      rw [upd_same, cut_to hz.1]
end

def SmP (l : List Int) : Prop := ∀ k, (co l k).natAbs ≤ 5
def spLawPoly (K : PySem.W.Frag) : Sp := fun vs H Q _ => ∃ (r : Addr) (ds : List Int) (most : Nat), vs = [.ref r, .int most] ∧ most ≤ 1000 ∧ H r = some (.lst (ds.map V.int)) ∧
  ∀ (t : Addr) (zs ds' : List Int) (H' : Hp), SameBut r H H' → H' r = some (.lst (ds'.map V.int)) → H t = none → H' t = some (.tup (zs.map V.int)) → Pol zs → SmP zs → zs.length ≤ most → Q (.ref t) H'
section
variable {P : Program} {w : World} {K : PySem.W.Frag} {mg : Str → Option Value} {base : Heap}
/-! ### _law_poly -/
theorem ok_law_poly {f a_law_next a_law_cut : Addr} {fd fd_law_next fd_law_cut : FuncData} (F : Fun K "_law_poly" "_law_poly" s_law_poly f fd) (z_int : mg "int" = none) (z_range : mg "range" = none)
    (G_law_next : FnOk P w K mg base CX0 1 a_law_next fd_law_next ["draws"] spNext) (g_law_next : mg "_law_next" = some (.ref a_law_next)) (k_law_next : PySem.W.keepIn K (.ref a_law_next) = true) (b_law_next : Binds K fd_law_next ["draws"] [])
    (G_law_cut : FnOk P w K mg base CX0 1 a_law_cut fd_law_cut ["parts"] (spCut K)) (g_law_cut : mg "_law_cut" = some (.ref a_law_cut)) (k_law_cut : PySem.W.keepIn K (.ref a_law_cut) = true) (b_law_cut : Binds K fd_law_cut ["parts"] []) : FnOk P w K mg base CX0 2 f fd ["draws", "most"] (spLawPoly K) := by
  refine F.ok sc_law_poly (fun vs H Q E h => ?_) (fun cdv A outer s H vs Q E hr h => ?_)
  · obtain ⟨r, ds, most, rfl, _⟩ := h
    rfl
  · obtain ⟨r, ds, most, rfl, hm, hL, q⟩ := h
    refine ⟨_, (pss_one (ps_ret (pe_call G_law_cut (hr.mono (by decide)) rfl g_law_cut k_law_cut b_law_cut .nil pass0 (pa_cons (pe_lc (own := [("j", 2)]) rfl sc_law_poly.nd (pi_range1 rfl z_range (pa_cons (pe_op op_mod (pe_callTy call_int1 (by rfl) z_int boot_int (pa_cons (pe_call G_law_next (hr.mono (by decide)) rfl g_law_next k_law_next b_law_next .nil pass0 (pa_cons (pv 0) pa_nil)) pa_nil)) (pe_op op_add (pv 1) pe_int)) pa_nil)) (blkOk_by (N := ["draws", "most", "j"]) (sc := defScope s_law_poly) (by first | decide +kernel | rfl)) (fun _ _ _ _ _ => (pg_name (i := 2) sc_law_poly.nd rfl (.inl rfl))) (fun _ _ _ _ _ => pts_nil) (fun _ _ _ _ _ => (pe_op op_sub (pe_op op_mod (pe_callTy call_int1 (by rfl) z_int boot_int (pa_cons (pe_call G_law_next (hr.mono (by decide)) rfl g_law_next k_law_next b_law_next .nil pass0 (pa_cons (pv 0) pa_nil)) pa_nil)) pe_int) pe_int))) pa_nil)))), ?_⟩
    have szl : 2000 ≤ sizeLine := by decide
    refine ⟨_, rfl, r, ds, rfl, hL, fun n0 ds0 => .inl ⟨n0, rfl, _, rfl, _, _, rfl, rfl, n0, _, rfl, rfl, by omega, ?_⟩⟩
    obtain ⟨N, hN, eN⟩ : ∃ N : Nat, N ≤ most ∧ n0 % ((most : Int) + 1) = (N : Int) := by
      have m := mod_lt8 n0 (show (0 : Int) < (most : Int) + 1 by omega)
      exact ⟨(n0 % ((most : Int) + 1)).toNat, by omega, by omega⟩
    refine ⟨(N : Int), congrArg (fun z => [V.int z]) eN, by omega, by omega, fun D nD => ?_⟩
    have hrD : r ≠ D := ne_of_none upd_same nD
    have nD0 : H D = none := by rwa [upd_ne (Ne.symm hrD)] at nD
    refine lc_range (lo := 0) (n := N) (fun i H' => ∃ (ds' cs : List Int), SameBut r H H' ∧ H' r = some (.lst (ds'.map V.int)) ∧ H' D = some (.lst (cs.map V.int)) ∧ cs.length = i ∧ SmP cs)
      ⟨ds0, [], SameBut.upd.trans (SameBut.new nD), by rw [upd_ne hrD, upd_same], upd_same, rfl, fun k => by rw [co_ge (Nat.zero_le _)]; decide⟩ (fun i H' hi hP => ?_) (fun H' hP => ?_)
    · obtain ⟨ds', cs, sb, hr', hD, lc, sm⟩ := hP
      refine ⟨rfl, ?_⟩
      refine ⟨_, rfl, r, ds', rfl, hr', fun n1 ds1 => .inl ⟨n1, rfl, n1, 11, rfl, rfl, (show (0 : Int) < 11 by decide), _, 5, rfl, rfl, ?_⟩⟩
      have m1 := mod_lt8 n1 (show (0 : Int) < 11 by decide)
      refine ⟨cs.map V.int, by rw [upd_ne (Ne.symm hrD)]; exact hD, by rw [List.length_map]; omega, ds1, cs ++ [n1 % 11 - 5], ?_, by rw [upd_ne hrD, upd_same], by rw [upd_same, List.map_append]; rfl, by rw [List.length_append, lc]; rfl, fun k => ?_⟩
      · intro b o nb hb
        rw [upd_ne (ne_of_none hb nD0), upd_ne nb]
        exact sb b o nb hb
      · rcases Nat.lt_or_ge k cs.length with c | c
        · have : co (cs ++ [n1 % 11 - 5]) k = co cs k := by
            unfold co
            rw [List.getD_eq_getElem?_getD, List.getD_eq_getElem?_getD, List.getElem?_append_left c]
          rw [this]
          exact sm k
        · by_cases c2 : k = cs.length
          · have : co (cs ++ [n1 % 11 - 5]) k = n1 % 11 - 5 := by
              unfold co
              rw [List.getD_eq_getElem?_getD, List.getElem?_append_right c, c2, Nat.sub_self]
              rfl
            rw [this]
            omega
          · rw [co_ge (by rw [List.length_append]; show cs.length + 1 ≤ k; omega)]
            decide
    · obtain ⟨ds', cs, sb, hr', hD, lc, sm⟩ := hP
      refine ⟨D, cs, rfl, .inl (.inl hD), by omega, fun t zs H2 s2 nt ht tr => ?_⟩
      refine q t zs ds' H2 (fun b o nb hb => s2 _ _ (sb b o nb hb)) (s2 _ _ hr') ?_ ht tr.pol (fun k => by rw [tr.co]; exact sm k) (by have := tr.len; omega)
      have nrt : t ≠ r := fun z => by
        rw [z, hr'] at nt
        exact nomatch nt
      cases e : H t with
      | none => rfl
      | some o =>
        rw [sb _ _ nrt e] at nt
        exact nomatch nt
end

def spLawTimes (K : PySem.W.Frag) : Sp := fun vs H Q _ => ∃ (a b : Addr) (l m : List Int), vs = [.ref a, .ref b] ∧ SqT K H a (l.map V.int) ∧ SqT K H b (m.map V.int) ∧ (∀ x ∈ l, ∀ y ∈ m, CMul x y) ∧ l.length ≤ 1000 ∧ m.length ≤ 1000 ∧
  ∀ t zs H', Same H H' → H t = none → H' t = some (.tup (zs.map V.int)) → Pol zs → (∀ k, co zs k = conv l m l.length k) → zs.length ≤ l.length + m.length → Q (.ref t) H'
section
variable {P : Program} {w : World} {K : PySem.W.Frag} {mg : Str → Option Value} {base : Heap}
/-! ### _law_times -/
theorem ok_law_times {f a_law_cut : Addr} {fd fd_law_cut : FuncData} (F : Fun K "_law_times" "_law_times" s_law_times f fd) (z_len : mg "len" = none) (z_range : mg "range" = none)
    (G_law_cut : FnOk P w K mg base CX0 1 a_law_cut fd_law_cut ["parts"] (spCut K)) (g_law_cut : mg "_law_cut" = some (.ref a_law_cut)) (k_law_cut : PySem.W.keepIn K (.ref a_law_cut) = true) (b_law_cut : Binds K fd_law_cut ["parts"] []) : FnOk P w K mg base CX0 2 f fd ["one", "other"] (spLawTimes K) := by
  refine F.ok sc_law_times (fun vs H Q E h => ?_) (fun cdv A outer s H vs Q E hr h => ?_)
  · obtain ⟨a, b, l, m, rfl, _⟩ := h
    rfl
  · obtain ⟨a, b, l, m, rfl, ha, hb, hm, ll, lm, q⟩ := h
    refine ⟨_, (pss_cons (ps_set (i := 2) sc_law_times.nd rfl (.inl rfl) (pe_op op_rep (pe_lst (pa_cons pe_int pa_nil)) (pe_op op_add (pe_callB call_len_seq (by rfl) z_len boot_len (pa_cons (pv 0) pa_nil)) (pe_callB call_len_seq (by rfl) z_len boot_len (pa_cons (pv 1) pa_nil)))))
  (pss_cons (ps_for PassesOwn.never rfl (pi_range1 rfl z_range (pa_cons (pe_callB call_len_seq (by rfl) z_len boot_len (pa_cons (pv 0) pa_nil)) pa_nil)) (pg_name (i := 3) sc_law_times.nd rfl (.inl rfl)) (pss_one (ps_for PassesOwn.never rfl (pi_range1 rfl z_range (pa_cons (pe_callB call_len_seq (by rfl) z_len boot_len (pa_cons (pv 1) pa_nil)) pa_nil)) (pg_name (i := 4) sc_law_times.nd rfl (.inl rfl)) (pss_one (ps_asg (pe_op op_add (pe_ix ix_list (pv 2) (pe_op op_add (pv 3) (pv 4)) (fun _ _ => rfl)) (pe_op op_mul (pe_ix ix_tup (pv 0) (pv 3) (fun _ _ => rfl)) (pe_ix ix_tup (pv 1) (pv 4) (fun _ _ => rfl)))) (pg_sub (pv 2) (pe_op op_add (pv 3) (pv 4)) set_list))))))
  (pss_one (ps_ret (pe_call G_law_cut (hr.mono (by decide)) rfl g_law_cut k_law_cut b_law_cut .nil pass0 (pa_cons (pv 2) pa_nil)))))), ?_⟩
    have szl : 3000 ≤ sizeLine := by decide
    refine ⟨(by show 1 ≤ sizeLine; decide), fun z nz => ?_⟩
    have hz : SqT K (upd H z (.lst [.int 0])) a (l.map V.int) := sqT_same (same_upd nz) ha
    have hz2 : SqT K (upd H z (.lst [.int 0])) b (m.map V.int) := sqT_same (same_upd nz) hb
    refine ⟨_, rfl, a, _, rfl, .inr hz, _, rfl, b, _, rfl, .inr hz2, _, _, rfl, rfl, z, _, _, rfl, rfl, upd_same, ?_⟩
    rw [List.length_map, List.length_map, show ((l.length : Nat) : Int) + ((m.length : Nat) : Int) = ((l.length + m.length : Nat) : Int) by omega]
    refine ⟨by omega, by omega, by show 1 * _ ≤ sizeLine; omega, fun D nD => ?_⟩
    rw [show ((l.length + m.length : Nat) : Int).toNat = l.length + m.length from rfl, rep0]
    have s1 : Same H (upd (upd H z (.lst [.int 0])) D (.lst ((List.replicate (l.length + m.length) (0 : Int)).map V.int))) := Same.trans (same_upd nz) (same_upd nD)
    have hD1 : upd (upd H z (.lst [.int 0])) D (.lst ((List.replicate (l.length + m.length) (0 : Int)).map V.int)) D = some (.lst ((List.replicate (l.length + m.length) (0 : Int)).map V.int)) := upd_same
    have nD0 := none_back (same_upd nz) nD
    revert s1 hD1
    generalize upd (upd H z (.lst [.int 0])) D (.lst ((List.replicate (l.length + m.length) (0 : Int)).map V.int)) = H1
    intro s1 hD1
    refine ⟨_, rfl, a, _, rfl, .inr (sqT_same s1 ha), ?_⟩
    rw [List.length_map]
    refine ⟨_, rfl, by omega, by omega, for_range (lo := 0) (n := l.length) (fun i σ H' => ∃ (v3 v4 : Option V) (ps : List Int), σ = [some (.ref a), some (.ref b), some (.ref D), v3, v4] ∧ Same H H' ∧ H' D = some (.lst (ps.map V.int)) ∧ ps.length = l.length + m.length ∧ ∀ k, co ps k = conv l m i k)
      ⟨none, none, _, rfl, s1, hD1, List.length_replicate, fun k => by rw [co_zeros]; rfl⟩ (fun i σ H' hi hP => ?_) (fun σ H' hP => ?_)⟩
    · obtain ⟨v3, v4, ps, rfl, s2, hD2, lp, hc⟩ := hP
      refine ⟨_, rfl, b, _, rfl, .inr (sqT_same s2 hb), ?_⟩
      rw [List.length_map]
      refine ⟨_, rfl, by omega, by omega, for_range (lo := 0) (n := m.length) (fun j σ H' => ∃ (v4 : Option V) (ps : List Int), σ = [some (.ref a), some (.ref b), some (.ref D), some (.int (0 + (i : Int))), v4] ∧ Same H H' ∧ H' D = some (.lst (ps.map V.int)) ∧ ps.length = l.length + m.length ∧ ∀ k, co ps k = part l m i j k)
        ⟨v4, ps, rfl, s2, hD2, lp, fun k => by rw [hc, part_0]⟩ (fun j σ H' hj hP => ?_) (fun σ H' hP => ?_)⟩
      · obtain ⟨v4, ps, rfl, s4, hD4, lp, hc⟩ := hP
        have hij : i + j < ps.length := by omega
        have ea : (0 : Int) + (i : Int) + (0 + (j : Int)) = ((i + j : Nat) : Int) := by omega
        have ei : (0 : Int) + (i : Int) = ((i : Nat) : Int) := by omega
        have ej : (0 : Int) + (j : Int) = ((j : Nat) : Int) := by omega
        refine ⟨_, rfl, _, rfl, _, rfl, _, _, rfl, rfl, D, _, _, _, rfl, rfl, .inl (.inl hD4), (by rw [ea]; exact at_co hij), _, rfl, _, rfl, a, _, _, _, rfl, rfl, sqT_same s4 ha, (by rw [ei]; exact at_co hi),
          _, rfl, _, rfl, b, _, _, _, rfl, rfl, sqT_same s4 hb, (by rw [ej]; exact at_co hj), _, _, rfl, rfl, hm _ (co_mem hi) _ (co_mem hj), _, _, rfl, rfl, ?_⟩
        refine ⟨_, rfl, _, rfl, _, rfl, _, _, rfl, rfl, D, _, _, i + j, rfl, rfl, hD4, (by rw [ea]; exact ixN_nat (by rw [List.length_map]; exact hij)), ?_⟩
        refine ⟨_, ps.set (i + j) (co ps (i + j) + co l i * co m j), rfl, Same.mut s4 nD0, by rw [upd_same, map_set], by rw [List.length_set]; exact lp, fun k => ?_⟩
        rw [co_set k hij, part_step]
        by_cases c : k = i + j
        · rw [if_pos c, if_pos c, c, hc]
        · rw [if_neg c, if_neg c, hc]
      · obtain ⟨v4, ps, rfl, s4, hD4, lp, hc⟩ := hP
        exact ⟨_, _, ps, rfl, s4, hD4, lp, fun k => by rw [hc, part_end]⟩
    · obtain ⟨v3, v4, ps, rfl, s2, hD2, lp, hc⟩ := hP
      refine ⟨_, rfl, D, ps, rfl, .inl (.inl hD2), by omega, fun t zs H2 s3 nt ht tr => q t zs H2 (Same.trans s2 s3) (none_back s2 nt) ht tr.pol (fun k => by rw [tr.co, hc]) (by have := tr.len; omega)⟩
end

theorem cut_last {l : List Int} : cutV (l.map V.int) none (some (-1)) = (l.take (l.length - 1)).map V.int := by
  unfold cutV
  rw [HT.sIx_none, List.length_map, List.drop_zero, Nat.sub_zero]
  have e : HT.sIx l.length l.length (some (-1)) = l.length - 1 := by
    show (if (-1 : Int) < 0 then ((-1 : Int) + (l.length : Int)).toNat else min (-1 : Int).toNat l.length) = _
    rw [if_pos (by decide)]
    omega
  rw [e, ← List.map_take]
/-- what lies behind i of the parts, from the end on -/
def hsum (x : Int) (l : List Int) (i : Nat) : List Int := (List.range i).map fun t => ev x (l.drop (l.length - 1 - t))
theorem hsum_len (x : Int) (l : List Int) (i : Nat) : (hsum x l i).length = i := by
  unfold hsum
  rw [List.length_map, List.length_range]
theorem hsum_more (x : Int) (l : List Int) (i : Nat) : hsum x l (i + 1) = hsum x l i ++ [ev x (l.drop (l.length - 1 - i))] := by
  unfold hsum
  rw [List.range_succ, List.map_append]
  rfl
def quo (x : Int) (l : List Int) : List Int := ((hsum x l l.length).take (l.length - 1)).reverse
theorem quo_len (x : Int) (l : List Int) : (quo x l).length = l.length - 1 := by
  unfold quo
  rw [List.length_reverse, List.length_take, hsum_len]
  omega
theorem quo_co (x : Int) (l : List Int) (k : Nat) : co (quo x l) k = ev x (l.drop (k + 1)) := by
  rcases Nat.lt_or_ge k (l.length - 1) with c | c
  · have hl : ((hsum x l l.length).take (l.length - 1)).length = l.length - 1 := by rw [List.length_take, hsum_len]; omega
    unfold co quo
    rw [List.getD_eq_getElem?_getD, List.getElem?_reverse (by omega), hl, List.getElem?_take_of_lt (by omega)]
    unfold hsum
    rw [List.getElem?_map, List.getElem?_range (by omega)]
    show ev x (l.drop (l.length - 1 - (l.length - 1 - 1 - k))) = _
    congr 2
    omega
  · rw [co_ge (by rw [quo_len]; exact c), List.drop_eq_nil_of_le (by omega)]
    rfl
def spSplit (K : PySem.W.Frag) : Sp := fun vs H Q _ => ∃ (a : Addr) (x : Int) (l : List Int), vs = [.ref a, .int x] ∧ (SqL K H a (l.map V.int) ∨ SqT K H a (l.map V.int)) ∧ l.length ≤ 1000 ∧ x.natAbs < 2 ^ 62 ∧
  ∀ t u H', Same H H' → H t = none → H u = none → H' t = some (.tup [.ref u, .int (ev x l)]) → H' u = some (.lst ((quo x l).map V.int)) → Q (.ref t) H'
section
variable {P : Program} {w : World} {K : PySem.W.Frag} {mg : Str → Option Value} {base : Heap}
/-! ### _split_off -/
theorem ok_split_off_ {f : Addr} {fd : FuncData} (F : Fun K "_split_off" "_split_off" s_split_off_ f fd) (z_reversed : mg "reversed" = none) : FnOk P w K mg base CX0 1 f fd ["parts", "x"] (spSplit K) := by
  refine F.ok sc_split_off_ (fun vs H Q E h => ?_) (fun cdv A outer s H vs Q E hr h => ?_)
  · obtain ⟨a, x, l, rfl, _⟩ := h
    rfl
  · obtain ⟨a, x, l, rfl, ha, hl, hx, q⟩ := h
    refine ⟨_, (pss_cons (ps_set (i := 2) sc_split_off_.nd rfl (.inl rfl) (pe_lst pa_nil))
  (pss_cons (ps_set (i := 3) sc_split_off_.nd rfl (.inl rfl) pe_int)
  (pss_cons (ps_for PassesOwn.never rfl (RT.pi_revA rfl z_reversed (pv 0)) (pg_name (i := 4) sc_split_off_.nd rfl (.inl rfl)) (pss_cons (ps_set (i := 3) sc_split_off_.nd rfl (.inl rfl) (pe_op op_add (pe_op op_mul (pv 3) (pv 1)) (pv 4)))
  (pss_one (ps_expr (pe_bm PySem.F.plainAttrs_list PySem.F.slot_list_append PySem.F.type_list_append mt_append (pv 2) (pa_cons (pv 3) pa_nil))))))
  (pss_one (ps_ret (pe_tup (pa_cons (pe_revL (pe_slice sl_list (pv 2) po_none (po_some (pe_un un_neg pe_int)))) (pa_cons (pv 3) pa_nil)))))))), ?_⟩
    have szl : 2000 ≤ sizeLine := by decide
    refine ⟨(by show 0 ≤ sizeLine; decide), fun D nD => ?_⟩
    have s1 : Same H (upd H D (.lst [])) := same_upd nD
    let Pv : Nat → L2.St → Hp → Prop := fun i σ H' => ∃ v4, σ = [some (.ref a), some (.int x), some (.ref D), some (.int (ev x (l.drop (l.length - i)))), v4] ∧ Same H H' ∧ H' D = some (.lst ((hsum x l i).map V.int))
    have p0 : Pv 0 [some (.ref a), some (.int x), some (.ref D), some (.int 0), none] (upd H D (.lst [])) := ⟨none, by rw [Nat.sub_zero, List.drop_length]; rfl, s1, upd_same⟩
    have get : ∀ (i : Nat) (y : V), i < (l.map V.int).length → (l.map V.int)[(l.map V.int).length - 1 - i]? = some y → y = .int (co l (l.length - 1 - i)) := fun i y hi hy => by
      rw [List.length_map] at hi hy
      rw [List.getElem?_map, co_get (by omega)] at hy
      exact (Option.some.inj hy).symm
    have step : ∀ i, i < l.length → ev x (l.drop (l.length - i)) * x + co l (l.length - 1 - i) = ev x (l.drop (l.length - (i + 1))) := fun i hi => by
      rw [show l.length - (i + 1) = l.length - 1 - i by omega, ev_drop x (i := l.length - 1 - i) (by omega), show l.length - 1 - i + 1 = l.length - i by omega, Int.mul_comm, Int.add_comm]
    have turn : ∀ (i : Nat) (y : V) (σ : L2.St) (H1 : Hp), i < (l.map V.int).length → (l.map V.int)[(l.map V.int).length - 1 - i]? = some y → Pv i σ H1 → True := fun _ _ _ _ _ _ _ => trivial
    have cm : ∀ z, CMul z x := fun z => .inr ⟨by omega, by omega⟩
    refine ⟨_, rfl, a, l.map V.int, rfl, ?_⟩
    rcases ha with ha | ha
    · refine .inl ⟨sqL_same s1 ha, ?_⟩
      refine RT.for_Itv Pv p0 (fun i σ H' ⟨_, _, s', _⟩ => sqL_same s' ha) (fun i y σ H' hi hy hP => ?_) (fun σ H' hP => ?_)
      · obtain rfl := get i y hi hy
        obtain ⟨v4, rfl, s2, hD⟩ := hP
        rw [List.length_map] at hi
        refine ⟨_, rfl, _, rfl, _, _, rfl, rfl, cm _, _, rfl, _, _, rfl, rfl, ?_⟩
        dsimp only
        rw [step i hi]
        refine ⟨_, rfl, .inl ⟨rfl, _, .inl (.inl hD)⟩, _, rfl, D, _, _, rfl, rfl, hD, by rw [List.length_map, hsum_len]; omega, ?_⟩
        refine ⟨_, rfl, Same.mut s2 nD, ?_⟩
        rw [upd_same, hsum_more, List.map_append, show l.length - (i + 1) = l.length - 1 - i by omega]
        rfl
      · obtain ⟨v4, rfl, s2, hD⟩ := hP
        rw [List.length_map, Nat.sub_self] at *
        refine ⟨_, rfl, _, rfl, _, rfl, D, _, rfl, .inl (.inl hD), fun p np => ?_⟩
        rw [cut_last, hsum_len]
        refine ⟨p, _, rfl, .inl (.inl upd_same), fun u nu => ?_⟩
        rw [← List.map_reverse]
        refine ⟨_, rfl, (by show 2 ≤ sizeLine; decide), fun t nt => ?_⟩
        have h1 : H' p = none := np
        have s3 : Same H (upd H' p (.lst (((hsum x l l.length).take (l.length - 1)).map V.int))) := Same.trans s2 (same_upd np)
        have s4 : Same H (upd (upd H' p (.lst (((hsum x l l.length).take (l.length - 1)).map V.int))) u (.lst ((quo x l).map V.int))) := Same.trans s3 (same_upd nu)
        have hu : upd (upd H' p (.lst (((hsum x l l.length).take (l.length - 1)).map V.int))) u (.lst ((quo x l).map V.int)) u = some (.lst ((quo x l).map V.int)) := upd_same
        exact q t u _ (Same.trans s4 (same_upd nt)) (none_back s4 nt) (none_back s3 nu) upd_same (by rw [upd_ne (ne_of_none hu nt)]; exact hu)
    · refine .inr ⟨sqT_same s1 ha, ?_⟩
      refine RT.for_ItvT Pv p0 (fun i σ H' ⟨_, _, s', _⟩ => sqT_same s' ha) (fun i y σ H' hi hy hP => ?_) (fun σ H' hP => ?_)
      · obtain rfl := get i y hi hy
        obtain ⟨v4, rfl, s2, hD⟩ := hP
        rw [List.length_map] at hi
        refine ⟨_, rfl, _, rfl, _, _, rfl, rfl, cm _, _, rfl, _, _, rfl, rfl, ?_⟩
        dsimp only
        rw [step i hi]
        refine ⟨_, rfl, .inl ⟨rfl, _, .inl (.inl hD)⟩, _, rfl, D, _, _, rfl, rfl, hD, by rw [List.length_map, hsum_len]; omega, ?_⟩
        refine ⟨_, rfl, Same.mut s2 nD, ?_⟩
        rw [upd_same, hsum_more, List.map_append, show l.length - (i + 1) = l.length - 1 - i by omega]
        rfl
      · obtain ⟨v4, rfl, s2, hD⟩ := hP
        rw [List.length_map, Nat.sub_self] at *
        refine ⟨_, rfl, _, rfl, _, rfl, D, _, rfl, .inl (.inl hD), fun p np => ?_⟩
        rw [cut_last, hsum_len]
        refine ⟨p, _, rfl, .inl (.inl upd_same), fun u nu => ?_⟩
        rw [← List.map_reverse]
        refine ⟨_, rfl, (by show 2 ≤ sizeLine; decide), fun t nt => ?_⟩
        have h1 : H' p = none := np
        have s3 : Same H (upd H' p (.lst (((hsum x l l.length).take (l.length - 1)).map V.int))) := Same.trans s2 (same_upd np)
        have s4 : Same H (upd (upd H' p (.lst (((hsum x l l.length).take (l.length - 1)).map V.int))) u (.lst ((quo x l).map V.int))) := Same.trans s3 (same_upd nu)
        have hu : upd (upd H' p (.lst (((hsum x l l.length).take (l.length - 1)).map V.int))) u (.lst ((quo x l).map V.int)) u = some (.lst ((quo x l).map V.int)) := upd_same
        exact q t u _ (Same.trans s4 (same_upd nt)) (none_back s4 nt) (none_back s3 nu) upd_same (by rw [upd_ne (ne_of_none hu nt)]; exact hu)
end

/-- how often x is a root, at most n times -/
def rcn (x : Int) : Nat → List Int → Nat
  | 0, _ => 0
  | n + 1, l => if ev x l = 0 then rcn x n (quo x l) + 1 else 0
theorem ev_ne {x : Int} {l : List Int} (hl : l.length = 1) (h : co l 0 ≠ 0) : ev x l ≠ 0 := by
  match l, hl with
  | [a], _ =>
    show a + x * 0 ≠ 0
    rw [Int.mul_zero, Int.add_zero]
    exact h
theorem quo_lead {x : Int} {l : List Int} (h : 2 ≤ l.length) : co (quo x l) (l.length - 2) = co l (l.length - 1) := by
  rw [quo_co, show l.length - 2 + 1 = l.length - 1 by omega, ev_drop x (by omega), show l.length - 1 + 1 = l.length by omega, List.drop_length]
  show _ + x * 0 = _
  rw [Int.mul_zero, Int.add_zero]
theorem quo_pol {x : Int} {l : List Int} (hl : l ≠ []) (pl : Pol l) (h : ev x l = 0) : 2 ≤ l.length ∧ quo x l ≠ [] ∧ Pol (quo x l) ∧ (quo x l).length = l.length - 1 := by
  have n0 := List.length_pos_iff.mpr hl
  have lead := pl.resolve_left hl
  have l2 : 2 ≤ l.length := by
    refine Decidable.byContradiction fun z => ?_
    have e : l.length = 1 := by omega
    rw [e] at lead
    exact ev_ne e lead h
  have lq := quo_len x l
  have qn : quo x l ≠ [] := fun z => by
    rw [z] at lq
    have : 0 = l.length - 1 := lq
    omega
  refine ⟨l2, qn, .inr ?_, lq⟩
  rw [lq, show l.length - 1 - 1 = l.length - 2 by omega, quo_lead l2]
  exact lead
theorem rcn_more {x : Int} : ∀ (n : Nat) {l : List Int}, l ≠ [] → Pol l → l.length ≤ n → rcn x n l = rcn x l.length l
  | 0, l, hl, _, h => absurd (List.eq_nil_of_length_eq_zero (by omega)) hl
  | n + 1, l, hl, pl, h => by
    obtain ⟨k, hk⟩ : ∃ k, l.length = k + 1 := ⟨l.length - 1, by have := List.length_pos_iff.mpr hl; omega⟩
    rw [hk]
    show (if ev x l = 0 then rcn x n (quo x l) + 1 else 0) = (if ev x l = 0 then rcn x k (quo x l) + 1 else 0)
    by_cases c : ev x l = 0
    · rw [if_pos c, if_pos c]
      obtain ⟨_, q1, q2, q3⟩ := quo_pol hl pl c
      rw [rcn_more n q1 q2 (by omega), rcn_more k q1 q2 (by omega)]
    · rw [if_neg c, if_neg c]
termination_by n => n
section
variable {P : Program} {w : World} {K : PySem.W.Frag} {mg : Str → Option Value} {base : Heap}
/-! ### _root_count -/
def spRootCount (K : PySem.W.Frag) : Sp := fun vs H Q _ => ∃ (a : Addr) (x : Int) (l : List Int), vs = [.ref a, .int x] ∧ SqT K H a (l.map V.int) ∧ Pol l ∧ l ≠ [] ∧ l.length ≤ 1000 ∧ x.natAbs < 2 ^ 62 ∧ ∀ H', Same H H' → Q (.int (rcn x l.length l : Nat)) H'
theorem ok_root_count_ {f a_split_off_ : Addr} {fd fd_split_off_ : FuncData} (F : Fun K "_root_count" "_root_count" s_root_count_ f fd)
    (G_split_off_ : FnOk P w K mg base CX0 1 a_split_off_ fd_split_off_ ["parts", "x"] (spSplit K)) (g_split_off_ : mg "_split_off" = some (.ref a_split_off_)) (k_split_off_ : PySem.W.keepIn K (.ref a_split_off_) = true) (b_split_off_ : Binds K fd_split_off_ ["parts", "x"] []) : FnOk P w K mg base CX0 2 f fd ["poly", "x"] (spRootCount K) := by
  refine F.ok sc_root_count_ (fun vs H Q E h => ?_) (fun cdv A outer s H vs Q E hr h => ?_)
  · obtain ⟨a, x, l, rfl, _⟩ := h
    rfl
  · obtain ⟨a, x, l, rfl, ha, pl, hl, ll, hx, q⟩ := h
    refine ⟨_, (pss_cons (ps_set (i := 2) sc_root_count_.nd rfl (.inl rfl) pe_int)
  (pss_cons (ps_asg (pe_call G_split_off_ (hr.mono (by decide)) rfl g_split_off_ k_split_off_ b_split_off_ .nil pass0 (pa_cons (pv 0) (pa_cons (pv 1) pa_nil))) (pg_tup rfl (pgs_cons (pg_name (i := 3) sc_root_count_.nd rfl (.inl rfl)) (pgs_cons (pg_name (i := 4) sc_root_count_.nd rfl (.inl rfl)) pgs_nil))))
  (pss_cons (ps_while PassesOwn.never (pt_cmpR op_eq (pv 4) pe_int (nomark _)) (pss_cons (ps_aug (i := 2) sc_root_count_.nd rfl (.inl rfl) pe_int ip_add)
  (pss_one (ps_asg (pe_call G_split_off_ (hr.mono (by decide)) rfl g_split_off_ k_split_off_ b_split_off_ .nil pass0 (pa_cons (pv 3) (pa_cons (pv 1) pa_nil))) (pg_tup rfl (pgs_cons (pg_name (i := 3) sc_root_count_.nd rfl (.inl rfl)) (pgs_cons (pg_name (i := 4) sc_root_count_.nd rfl (.inl rfl)) pgs_nil)))))))
  (pss_one (ps_ret (pv 2)))))), ?_⟩
    refine ⟨_, rfl, _, rfl, a, x, l, rfl, .inr ha, ll, hx, fun t u H1 s1 nt nu ht hu => ?_⟩
    refine ⟨t, _, rfl, .inl (.inl ht), rfl, _, _, rfl, _, _, rfl, rfl, ?_⟩
    refine ⟨fun M σ H' => ∃ (n : Nat) (cur : List Int) (u : Addr), M = cur.length ∧ σ = [some (.ref a), some (.int x), some (.int (n : Int)), some (.ref u), some (.int (ev x cur))] ∧ Same H H' ∧ H' u = some (.lst ((quo x cur).map V.int)) ∧ Pol cur ∧ cur ≠ [] ∧ cur.length ≤ 1000 ∧
      n + rcn x cur.length cur = rcn x l.length l, ⟨_, 0, l, u, rfl, rfl, s1, hu, pl, hl, ll, Nat.zero_add _⟩, ?_⟩
    rintro M σ H2 ⟨n, cur, u2, rfl, rfl, s2, hu2, pc, nc, lc, e⟩
    refine ⟨_, rfl, rfl, _, rfl, ?_⟩
    have n0 := List.length_pos_iff.mpr nc
    have e1 : rcn x cur.length cur = if ev x cur = 0 then rcn x (cur.length - 1) (quo x cur) + 1 else 0 := by
      obtain ⟨k, hk⟩ : ∃ k, cur.length = k + 1 := ⟨cur.length - 1, by omega⟩
      rw [hk]
      rfl
    by_cases c : ev x cur = 0
    · rw [decide_eq_true (congrArg V.int c)]
      obtain ⟨l2, q1, q2, q3⟩ := quo_pol nc pc c
      rw [if_pos c] at e1
      refine iteT ⟨_, fun _ _ n => n, _, rfl, _, _, rfl, rfl, _, rfl, _, rfl, u2, x, quo x cur, rfl, .inl (.inl (.inl hu2)), by omega, hx, fun t2 u3 H3 s3 nt2 nu3 ht2 hu3 => ?_⟩
      refine ⟨t2, _, rfl, .inl (.inl ht2), rfl, _, _, rfl, _, _, rfl, rfl, ?_⟩
      exact ⟨(quo x cur).length, by omega, n + 1, quo x cur, u3, rfl, rfl, Same.trans s2 s3, hu3, q2, q1, by omega, by rw [q3]; omega⟩
    · rw [decide_eq_false (fun z => c (V.int.inj z))]
      rw [if_neg c] at e1
      refine iteF ⟨_, rfl, ?_⟩
      have : n = rcn x l.length l := by omega
      rw [this]
      exact q _ s2
end

def rtD (l : List Int) (x : Int) : List PyData := if 0 < rcn x l.length l then [.tuple [.int x, .int (rcn x l.length l : Nat)]] else []
def rootsD (l : List Int) (lo : Int) : Nat → List PyData
  | 0 => []
  | n + 1 => rootsD l lo n ++ rtD l (lo + (n : Int))
def spRoots (K : PySem.W.Frag) (CP CB CN : Addr) : Sp := fun vs H Q E => ∃ (a : Addr) (most : Int) (l : List Int), vs = [.ref a, .int most] ∧ SqT K H a (l.map V.int) ∧ (isP l = false → E (.ref CP) none H) ∧ (isP l = true → (l = [] → E (.ref CN) none H) ∧ (l ≠ [] → (¬ (0 ≤ most ∧ most ≤ 1000) → E (.ref CB) none H) ∧
  (0 ≤ most → most ≤ 1000 → ∀ D us H', Same H H' → H D = none → H' D = some (.lst us) → Paired (Val1 H') us (rootsD l (-most) (most + 1 - -most).toNat) → Q (.ref D) H')))
section
variable {P : Program} {w : World} {K : PySem.W.Frag} {mg : Str → Option Value} {base : Heap}
/-! ### roots -/
theorem ok_roots {f CP CB CN a_check_poly a_root_count_ : Addr} {fd fd_check_poly fd_root_count_ : FuncData} {tr : Tok} (F : FunA K "roots" "roots" s_roots f fd) (z_range : mg "range" = none) (m_MOST_ROOT : mg "MOST_ROOT" = some (.int 1000 tr))
    (T : ErrC K mg "BadNumber" CB) (T2 : ErrC K mg "NoAnswer" CN)
    (G_check_poly : FnOk P w K mg base (L2.CX P w) 2 a_check_poly fd_check_poly ["poly"] (spCheckPoly K CP)) (g_check_poly : mg "check_poly" = some (.ref a_check_poly)) (k_check_poly : PySem.W.keepIn K (.ref a_check_poly) = true) (b_check_poly : Binds K fd_check_poly ["poly"] [])
    (G_root_count_ : FnOk P w K mg base CX0 2 a_root_count_ fd_root_count_ ["poly", "x"] (spRootCount K)) (g_root_count_ : mg "_root_count" = some (.ref a_root_count_)) (k_root_count_ : PySem.W.keepIn K (.ref a_root_count_) = true) (b_root_count_ : Binds K fd_root_count_ ["poly", "x"] []) :
    FnOk P w K mg base (L2.CX P w) 3 f fd ["poly", "most"] (spRoots K CP CB CN) := by
  obtain ⟨gc_BadNumber, x_BadNumber, kc_BadNumber, bc_BadNumber, tc_BadNumber⟩ := T
  obtain ⟨gc_NoAnswer, x_NoAnswer, kc_NoAnswer, bc_NoAnswer, tc_NoAnswer⟩ := T2
  have r_MOST_ROOT : RelV (.int 1000) (.int 1000 tr) := ⟨_, rfl⟩
  refine F.okX sc_roots (fun vs H Q E h => ?_) (fun cdv A outer s H vs Q E hr h => ?_)
  · obtain ⟨a, most, l, rfl, _⟩ := h
    rfl
  · obtain ⟨a, most, l, rfl, ha, q1, q⟩ := h
    refine ⟨_, (pss_cons (ps_expr (pe_call G_check_poly (hr.mono (by decide)) rfl g_check_poly k_check_poly b_check_poly .nil (passes_call (takes_of rfl rfl rfl rfl) (fun _ _ _ _ h => h)) (pa_cons (pv 0) pa_nil)))
  (pss_cons (ps_if (pt_not (pt_truth (pv 0) (by intro _; rfl))) (pss_one (ps_raise rfl (takes_of rfl rfl rfl rfl) (pmk_own PySem.F.excBase_ValueError x_NoAnswer gc_NoAnswer kc_NoAnswer (raises_own bc_NoAnswer tc_NoAnswer) rfl))) pss_nil)
  (pss_cons (ps_if (pt_not (pt_chain op_le op_le pe_int (pv 1) (pe_glob rfl m_MOST_ROOT r_MOST_ROOT))) (pss_one (ps_raise rfl (takes_of rfl rfl rfl rfl) (pmk_own PySem.F.excBase_ValueError x_BadNumber gc_BadNumber kc_BadNumber (raises_own bc_BadNumber tc_BadNumber) rfl))) pss_nil)
  (pss_cons (ps_set (i := 2) sc_roots.nd rfl (.inl rfl) (pe_lst pa_nil))
  (pss_cons (ps_for (passes_of rfl) rfl (pi_range2 rfl z_range (pa_cons (pe_un un_neg (pv 1)) (pa_cons (pe_op op_add (pv 1) pe_int) pa_nil))) (pg_name (i := 3) sc_roots.nd rfl (.inl rfl)) (pss_cons (ps_set (i := 4) sc_roots.nd rfl (.inl rfl) (pe_call G_root_count_ (hr.mono (by decide)) rfl g_root_count_ k_root_count_ b_root_count_ .nil pass0 (pa_cons (pv 0) (pa_cons (pv 3) pa_nil))))
  (pss_one (ps_if (pt_cmpR op_gt (pv 4) pe_int (nomark _)) (pss_one (ps_expr (pe_bm PySem.F.plainAttrs_list PySem.F.slot_list_append PySem.F.type_list_append mt_append (pv 2) (pa_cons (pe_tup (pa_cons (pv 3) (pa_cons (pv 4) pa_nil))) pa_nil)))) pss_nil))))
  (pss_one (ps_ret (pv 2)))))))), ?_⟩
    have szl : 3000 ≤ sizeLine := by decide
    refine ⟨_, rfl, a, l, rfl, ha, fun e1 => ?_, q1⟩
    obtain ⟨p1, h1⟩ := isP_pol e1
    obtain ⟨qN, q⟩ := q e1
    refine ⟨_, rfl, _, .inr (.inl ⟨_, ha, rfl⟩), ?_⟩
    by_cases cl : l = []
    · subst cl
      exact iteT (qN rfl)
    have il : (l.map V.int).isEmpty = false := by
      cases l with
      | nil => exact absurd rfl cl
      | cons _ _ => rfl
    rw [il]
    refine iteF ?_
    obtain ⟨qB, q⟩ := q cl
    refine ⟨_, rfl, _, _, rfl, rfl, _, rfl, ?_⟩
    by_cases c0 : 0 ≤ most
    · rw [decide_eq_true c0]
      refine iteT ⟨_, _, rfl, rfl, _, rfl, ?_⟩
      by_cases c1 : most ≤ 1000
      · rw [decide_eq_true c1]
        refine iteF ?_
        have q := q c0 c1
        refine ⟨(by show 0 ≤ sizeLine; decide), fun D nD => ?_⟩
        refine ⟨_, rfl, _, rfl, _, rfl, _, _, rfl, rfl, _, _, rfl, ⟨by omega, by omega, by omega, by omega⟩, for_range (lo := -most) (n := (most + 1 - -most).toNat) (fun i σ H' => ∃ (v3 v4 : Option V) (us : List V), σ = [some (.ref a), some (.int most), some (.ref D), v3, v4] ∧ Same H H' ∧ H' D = some (.lst us) ∧ us.length ≤ i ∧ Paired (Val1 H') us (rootsD l (-most) i))
          ⟨none, none, [], rfl, same_upd nD, upd_same, Nat.le_refl _, .nil⟩ (fun i σ H2 hi hP => ?_) (fun σ H' hP => ?_)⟩
        · obtain ⟨v3, v4, us, rfl, s2, hD2, lu, pr⟩ := hP
          refine ⟨_, rfl, _, rfl, a, _, l, rfl, sqT_same s2 ha, p1, cl, by omega, by omega, fun H3 s3 => ?_⟩
          have hD3 := s3 _ _ hD2
          refine ⟨_, rfl, _, _, rfl, rfl, _, rfl, ?_⟩
          generalize ex : -most + (i : Int) = x
          have er : rootsD l (-most) (i + 1) = rootsD l (-most) i ++ rtD l x := by
            rw [← ex]
            rfl
          by_cases cr : 0 < rcn x l.length l
          · rw [decide_eq_true (show ((rcn x l.length l : Nat) : Int) > 0 by omega)]
            refine iteT ?_
            refine ⟨_, rfl, .inl ⟨rfl, _, .inl (.inl hD3)⟩, _, rfl, _, rfl, (by show 2 ≤ sizeLine; decide), fun p np => ?_⟩
            have s4 := same_upd (o := .tup [.int x, .int (rcn x l.length l : Nat)]) np
            have hD4 := s4 _ _ hD3
            refine ⟨D, _, _, rfl, rfl, hD4, by omega, ?_⟩
            refine ⟨_, _, us ++ [.ref p], rfl, Same.mut (Same.trans s2 (Same.trans s3 s4)) nD, upd_same, by rw [List.length_append]; exact Nat.succ_le_succ lu, ?_⟩
            rw [er]
            unfold rtD
            rw [if_pos cr]
            refine paired_snoc ?_ (Paired.mapP pr fun _ _ h => ((h.same s3).same s4).but SameBut.upd hD4)
            exact (Val1.pair upd_same).but SameBut.upd hD4
          · rw [decide_eq_false (show ¬ ((rcn x l.length l : Nat) : Int) > 0 by omega)]
            refine iteF ⟨_, _, us, rfl, Same.trans s2 s3, hD3, by omega, ?_⟩
            rw [er]
            unfold rtD
            rw [if_neg cr, List.append_nil]
            exact Paired.mapP pr fun _ _ h => h.same s3
        · obtain ⟨v3, v4, us, rfl, s2, hD2, lu, pr⟩ := hP
          exact ⟨_, rfl, q D us H' s2 nD hD2 pr⟩
      · rw [decide_eq_false c1]
        exact iteT (qB (fun z => c1 z.2))
    · rw [decide_eq_false c0]
      exact iteF ⟨_, rfl, iteT (qB (fun z => c0 z.1))⟩
end

def spLawValue (K : PySem.W.Frag) : Sp := fun vs H Q _ => ∃ (a : Addr) (x : Int) (l : List Int), vs = [.ref a, .int x] ∧ SqT K H a (l.map V.int) ∧ (∀ i, i < l.length → CMul (co l i) (x ^ i)) ∧ x.natAbs < 2 ^ 62 ∧ Q (.int (ev x l)) H
section
variable {P : Program} {w : World} {K : PySem.W.Frag} {mg : Str → Option Value} {base : Heap}
/-! ### _law_value -/
theorem ok_law_value {f : Addr} {fd : FuncData} (F : Fun K "_law_value" "_law_value" s_law_value f fd) : FnOk P w K mg base CX0 1 f fd ["poly", "x"] (spLawValue K) := by
  refine F.ok sc_law_value (fun vs H Q E h => ?_) (fun cdv A outer s H vs Q E hr h => ?_)
  · obtain ⟨a, x, l, rfl, _⟩ := h
    rfl
  · obtain ⟨a, x, l, rfl, ha, hs, hx, q⟩ := h
    refine ⟨_, (pss_cons (ps_set (i := 2) sc_law_value.nd rfl (.inl rfl) pe_int)
  (pss_cons (ps_set (i := 3) sc_law_value.nd rfl (.inl rfl) pe_int)
  (pss_cons (ps_for PassesOwn.never rfl (pi_tup (pv 0)) (pg_name (i := 4) sc_law_value.nd rfl (.inl rfl)) (pss_cons (ps_set (i := 2) sc_law_value.nd rfl (.inl rfl) (pe_op op_add (pv 2) (pe_op op_mul (pv 4) (pv 3))))
  (pss_one (ps_set (i := 3) sc_law_value.nd rfl (.inl rfl) (pe_op op_mul (pv 3) (pv 1))))))
  (pss_one (ps_ret (pv 2)))))), ?_⟩
    refine ⟨_, rfl, a, rfl, ⟨_, ha⟩, for_it walk_tup (fun i σ H' => H' = H ∧ ∃ v4 : Option V, σ = [some (.ref a), some (.int x), some (.int (ev x (l.take i))), some (.int (x ^ i)), v4])
      ⟨rfl, none, by rw [Int.pow_zero]; rfl⟩ (fun i σ H' _ h => by rw [h.1]; exact ha) (fun i y σ H1 H2 hi hP hy => ?_) (fun σ H' hP => ?_)⟩
    · obtain ⟨rfl, v4, rfl⟩ := hP
      obtain ⟨rfl, hy⟩ := hy
      rw [List.length_map] at hi
      have ey : (l.map V.int)[i]? = some (.int (co l i)) := by rw [List.getElem?_map, co_get hi]; rfl
      obtain rfl : V.int (co l i) = y := Option.some.inj (ey.symm.trans hy)
      refine ⟨_, rfl, _, rfl, _, rfl, _, _, rfl, rfl, hs i hi, _, _, rfl, rfl, ?_⟩
      refine ⟨_, rfl, _, rfl, _, _, rfl, rfl, .inr ⟨by omega, by omega⟩, rfl, some (.int (co l i)), ?_⟩
      rw [ev_take x hi, Int.pow_succ]
      rfl
    · obtain ⟨rfl, v4, rfl⟩ := hP
      rw [List.length_map, List.take_length]
      exact ⟨_, rfl, q⟩
end

def spLess (K : PySem.W.Frag) : Sp := fun vs H Q _ => ∃ (a : Addr) (x : Int) (l : List Int), vs = [.ref a, .int x] ∧ SqT K H a (l.map V.int) ∧ 1 ≤ l.length ∧ l.length ≤ 1000 ∧ x.natAbs < 2 ^ 62 ∧
  ∀ t H', Same H H' → H t = none → H' t = some (.tup ((quo x l).map V.int)) → Q (.ref t) H'
section
variable {P : Program} {w : World} {K : PySem.W.Frag} {mg : Str → Option Value} {base : Heap}
/-! ### _law_less -/
theorem ok_law_less {f : Addr} {fd : FuncData} (F : Fun K "_law_less" "_law_less" s_law_less f fd) (z_len : mg "len" = none) (z_range : mg "range" = none) (z_tuple : mg "tuple" = none) : FnOk P w K mg base CX0 1 f fd ["poly", "x"] (spLess K) := by
  refine F.ok sc_law_less (fun vs H Q E h => ?_) (fun cdv A outer s H vs Q E hr h => ?_)
  · obtain ⟨a, x, l, rfl, _⟩ := h
    rfl
  · obtain ⟨a, x, l, rfl, ha, l1, ll, hx, q⟩ := h
    refine ⟨_, (pss_cons (ps_set (i := 2) sc_law_less.nd rfl (.inl rfl) (pe_op op_rep (pe_lst (pa_cons pe_int pa_nil)) (pe_op op_sub (pe_callB call_len_seq (by rfl) z_len boot_len (pa_cons (pv 0) pa_nil)) pe_int)))
  (pss_cons (ps_set (i := 3) sc_law_less.nd rfl (.inl rfl) pe_int)
  (pss_cons (ps_for PassesOwn.never rfl (pi_range3 rfl z_range (pa_cons (pe_op op_sub (pe_callB call_len_seq (by rfl) z_len boot_len (pa_cons (pv 0) pa_nil)) pe_int) (pa_cons pe_int (pa_cons (pe_un un_neg pe_int) pa_nil)))) (pg_name (i := 4) sc_law_less.nd rfl (.inl rfl)) (pss_cons (ps_set (i := 3) sc_law_less.nd rfl (.inl rfl) (pe_op op_add (pe_ix ix_tup (pv 0) (pv 4) (fun _ _ => rfl)) (pe_op op_mul (pv 3) (pv 1))))
  (pss_one (ps_asg (pv 3) (pg_sub (pv 2) (pe_op op_sub (pv 4) pe_int) set_list)))))
  (pss_one (ps_ret (pe_callTy call_tuple_of (by rfl) z_tuple boot_tuple (pa_cons (pv 2) pa_nil))))))), ?_⟩
    have szl : 3000 ≤ sizeLine := by decide
    obtain ⟨N, eN⟩ : ∃ N : Nat, l.length = N + 1 := ⟨l.length - 1, by omega⟩
    refine ⟨(by show 1 ≤ sizeLine; decide), fun z nz => ?_⟩
    have s0 : Same H (upd H z (.lst [.int 0])) := same_upd nz
    refine ⟨_, rfl, a, _, rfl, .inr (sqT_same s0 ha), _, _, rfl, rfl, z, _, _, rfl, rfl, upd_same, ?_⟩
    rw [List.length_map, show ((l.length : Nat) : Int) - 1 = (N : Int) by omega]
    refine ⟨by omega, by omega, by show 1 * _ ≤ sizeLine; omega, fun D nD => ?_⟩
    rw [show ((N : Nat) : Int).toNat = N from rfl, rep0]
    have s1 : Same H (upd (upd H z (.lst [.int 0])) D (.lst ((List.replicate N (0 : Int)).map V.int))) := Same.trans s0 (same_upd nD)
    have hD1 : upd (upd H z (.lst [.int 0])) D (.lst ((List.replicate N (0 : Int)).map V.int)) D = some (.lst ((List.replicate N (0 : Int)).map V.int)) := upd_same
    have nD0 := none_back s0 nD
    revert s1 hD1
    generalize upd (upd H z (.lst [.int 0])) D (.lst ((List.replicate N (0 : Int)).map V.int)) = H1
    intro s1 hD1
    refine ⟨_, rfl, a, _, rfl, .inr (sqT_same s1 ha), _, _, rfl, rfl, _, rfl, _, _, _, N, rfl, ?_, for_rangeC (n := N) (fun i σ H' => ∃ (v4 : Option V) (ps : List Int), σ = [some (.ref a), some (.int x), some (.ref D), some (.int (ev x (l.drop (l.length - i)))), v4] ∧ Same H H' ∧ H' D = some (.lst (ps.map V.int)) ∧ ps.length = N ∧
        ∀ k, co ps k = if N ≤ k + i then ev x (l.drop (k + 1)) else 0)
      ⟨none, _, by rw [Nat.sub_zero, List.drop_length]; rfl, s1, hD1, List.length_replicate, fun k => ?_⟩ (fun i σ H2 hi hP => ?_) (fun σ H' hP => ?_)⟩
    · rw [List.length_map]
      have e : (((l.length : Nat) : Int) - 1 - 0).toNat = N := by omega
      rw [← e]
      exact RgC.neg (by omega) (by omega) (by omega) (by omega)
    · rw [co_zeros]
      by_cases c : N ≤ k + 0
      · rw [if_pos c, List.drop_eq_nil_of_le (by omega)]
        rfl
      · rw [if_neg c]
    · obtain ⟨v4, ps, rfl, s2, hD2, lp, hc⟩ := hP
      rw [List.length_map]
      have ej : ((l.length : Nat) : Int) - 1 + (i : Int) * -1 = ((N - i : Nat) : Int) := by omega
      rw [ej]
      refine ⟨_, rfl, _, rfl, a, _, _, _, rfl, rfl, sqT_same s2 ha, at_co (show N - i < l.length by omega), _, rfl, _, rfl, _, _, rfl, rfl, .inr ⟨by omega, by omega⟩, _, _, rfl, rfl, ?_⟩
      have es : co l (N - i) + ev x (l.drop (l.length - i)) * x = ev x (l.drop (N - i)) := by
        rw [ev_drop x (i := N - i) (by omega), show N - i + 1 = l.length - i by omega, Int.mul_comm]
      dsimp only
      rw [es]
      refine ⟨_, rfl, _, rfl, _, rfl, _, _, rfl, rfl, D, _, _, N - i - 1, rfl, rfl, hD2, (by rw [show ((N - i : Nat) : Int) - 1 = ((N - i - 1 : Nat) : Int) by omega]; exact ixN_nat (by rw [List.length_map]; omega)), ?_⟩
      refine ⟨_, ps.set (N - i - 1) (ev x (l.drop (N - i))), (by rw [show l.length - (i + 1) = N - i by omega]; rfl), Same.mut s2 nD0, by rw [upd_same, map_set], by rw [List.length_set]; exact lp, fun k => ?_⟩
      rw [co_set k (by omega), hc]
      by_cases c : k = N - i - 1
      · rw [if_pos c, if_pos (by omega), c, show N - i - 1 + 1 = N - i by omega]
      · rw [if_neg c]
        by_cases c2 : N ≤ k + i
        · rw [if_pos c2, if_pos (by omega)]
        · rw [if_neg c2, if_neg (by omega)]
    · obtain ⟨v4, ps, rfl, s2, hD2, lp, hc⟩ := hP
      refine ⟨_, rfl, D, _, rfl, .inl ⟨.inl (.inl hD2), fun t nt => ?_⟩⟩
      have : ps = quo x l := by
        refine List.ext_getElem? fun k => ?_
        have lq := quo_len x l
        rcases Nat.lt_or_ge k N with c | c
        · rw [co_get (by omega), co_get (by omega), hc, if_pos (by omega), quo_co]
        · rw [List.getElem?_eq_none (by omega), List.getElem?_eq_none (by omega)]
      subst this
      exact q t _ (Same.trans s2 (same_upd nt)) (none_back s2 nt) upd_same
end

theorem pow_small {x : Int} (hx : x.natAbs ≤ 40) {i : Nat} (hi : i ≤ 11) : -(2 ^ 64) < x ^ i ∧ x ^ i < 2 ^ 64 := by
  have h1 : (x ^ i).natAbs ≤ 40 ^ i := by
    rw [Int.natAbs_pow]
    exact Nat.pow_le_pow_left hx i
  have h2 : 40 ^ i ≤ 40 ^ 11 := Nat.pow_le_pow_right (by decide) hi
  have h3 : (40 : Nat) ^ 11 < 2 ^ 64 := by decide
  constructor <;> omega
section
variable {P : Program} {w : World} {K : PySem.W.Frag} {mg : Str → Option Value} {base : Heap}
/-! ### _law_due -/
def spDue6 (K : PySem.W.Frag) : Sp := fun vs H Q _ => ∃ (a : Addr) (most : Int) (l : List Int), vs = [.ref a, .int most] ∧ H a = some (.tup (l.map V.int)) ∧ Pol l ∧ l ≠ [] ∧ l.length ≤ 10 ∧ 0 ≤ most ∧ most ≤ 40 ∧
  ∀ D us H', Same H H' → H D = none → H' D = some (.lst us) → Paired (Val1 H') us (rootsD l (-most) (most + 1 - -most).toNat) → Q (.ref D) H'
theorem ok_law_due {f a_law_value a_law_less : Addr} {fd fd_law_value fd_law_less : FuncData} (F : Fun K "_law_due" "_law_due" s_law_due f fd) (z_len : mg "len" = none) (z_range : mg "range" = none)
    (G_law_value : FnOk P w K mg base CX0 1 a_law_value fd_law_value ["poly", "x"] (spLawValue K)) (g_law_value : mg "_law_value" = some (.ref a_law_value)) (k_law_value : PySem.W.keepIn K (.ref a_law_value) = true) (b_law_value : Binds K fd_law_value ["poly", "x"] [])
    (G_law_less : FnOk P w K mg base CX0 1 a_law_less fd_law_less ["poly", "x"] (spLess K)) (g_law_less : mg "_law_less" = some (.ref a_law_less)) (k_law_less : PySem.W.keepIn K (.ref a_law_less) = true) (b_law_less : Binds K fd_law_less ["poly", "x"] []) : FnOk P w K mg base CX0 2 f fd ["poly", "most"] (spDue6 K) := by
  refine F.ok sc_law_due (fun vs H Q E h => ?_) (fun cdv A outer s H vs Q E hr h => ?_)
  · obtain ⟨a, most, l, rfl, _⟩ := h
    rfl
  · obtain ⟨a, most, l, rfl, ha, pl, nl, ll, m0, m1, q⟩ := h
    refine ⟨_, (pss_cons (ps_set (i := 2) sc_law_due.nd rfl (.inl rfl) (pe_lst pa_nil))
  (pss_cons (ps_for PassesOwn.never rfl (pi_range2 rfl z_range (pa_cons (pe_op op_sub pe_int (pv 1)) (pa_cons (pe_op op_add (pv 1) pe_int) pa_nil))) (pg_name (i := 3) sc_law_due.nd rfl (.inl rfl)) (pss_cons (ps_set (i := 4) sc_law_due.nd rfl (.inl rfl) (pv 0))
  (pss_cons (ps_set (i := 5) sc_law_due.nd rfl (.inl rfl) pe_int)
  (pss_cons (ps_for PassesOwn.never rfl (pi_range1 rfl z_range (pa_cons (pe_callB call_len_seq (by rfl) z_len boot_len (pa_cons (pv 0) pa_nil)) pa_nil)) (pg_name (i := 6) sc_law_due.nd rfl (.inl rfl)) (pss_one (ps_if (L2.PW.pt (pw_and (pt_cmpR op_eq (pe_call G_law_value (hr.mono (by decide)) rfl g_law_value k_law_value b_law_value .nil pass0 (pa_cons (pv 4) (pa_cons (pv 3) pa_nil))) pe_int (nomark _)) (pw_and1 (pt_cmpR op_gt (pe_callB call_len_seq (by rfl) z_len boot_len (pa_cons (pv 4) pa_nil)) pe_int (nomark _))))) (pss_cons (ps_set (i := 4) sc_law_due.nd rfl (.inl rfl) (pe_call G_law_less (hr.mono (by decide)) rfl g_law_less k_law_less b_law_less .nil pass0 (pa_cons (pv 4) (pa_cons (pv 3) pa_nil))))
  (pss_one (ps_set (i := 5) sc_law_due.nd rfl (.inl rfl) (pe_op op_add (pv 5) pe_int)))) pss_nil)))
  (pss_one (ps_if (pt_cmpR op_gt (pv 5) pe_int (nomark _)) (pss_one (ps_expr (pe_bm PySem.F.plainAttrs_list PySem.F.slot_list_append PySem.F.type_list_append mt_append (pv 2) (pa_cons (pe_tup (pa_cons (pv 3) (pa_cons (pv 5) pa_nil))) pa_nil)))) pss_nil))))))
  (pss_one (ps_ret (pv 2))))), ?_⟩
    have szl : 3000 ≤ sizeLine := by decide
    refine ⟨(by show 0 ≤ sizeLine; decide), fun D nD => ?_⟩
    refine ⟨_, rfl, _, _, rfl, rfl, _, rfl, _, _, rfl, rfl, _, _, rfl, ⟨by omega, by omega, by omega, by omega⟩, for_range (lo := 0 - most) (n := (most + 1 - (0 - most)).toNat) (fun i σ H' => ∃ (v3 v4 v5 v6 : Option V) (us : List V), σ = [some (.ref a), some (.int most), some (.ref D), v3, v4, v5, v6] ∧ Same H H' ∧ H' D = some (.lst us) ∧ us.length ≤ i ∧ Paired (Val1 H') us (rootsD l (0 - most) i))
      ⟨none, none, none, none, [], rfl, same_upd nD, upd_same, Nat.le_refl _, .nil⟩ (fun i σ H2 hi hP => ?_) (fun σ H' hP => ?_)⟩
    · obtain ⟨v3, v4, v5, v6, us, rfl, s2, hD2, lu, pr⟩ := hP
      have er : rootsD l (0 - most) (i + 1) = rootsD l (0 - most) i ++ rtD l (0 - most + (i : Int)) := rfl
      have hx : (0 - most + (i : Int)).natAbs ≤ 40 := by omega
      revert er hx
      generalize 0 - most + (i : Int) = x
      intro er hx
      have ha2 := s2 _ _ ha
      refine ⟨_, rfl, _, rfl, a, _, rfl, .inr (.inl (.inl ha2)), ?_⟩
      rw [List.length_map]
      refine ⟨_, rfl, by omega, by omega, for_range (lo := 0) (n := l.length) (fun j σ H' => ∃ (v6 : Option V) (rr : Addr) (rs : List Int) (m : Nat), σ = [some (.ref a), some (.int most), some (.ref D), some (.int x), some (.ref rr), some (.int (m : Int)), v6] ∧ Same H2 H' ∧ H' rr = some (.tup (rs.map V.int)) ∧ Pol rs ∧ rs ≠ [] ∧ rs.length ≤ l.length ∧
          m + rcn x (l.length - j) rs = rcn x l.length l)
        ⟨v6, a, l, 0, rfl, Same.refl _, ha2, pl, nl, Nat.le_refl _, Nat.zero_add _⟩ (fun j σ H3 hj hP => ?_) (fun σ H3 hP => ?_)⟩
      · obtain ⟨v6, rr, rs, m, rfl, s3, hr3, pr3, nr3, lr3, e⟩ := hP
        obtain ⟨n, en⟩ : ∃ n, l.length - j = n + 1 := ⟨l.length - j - 1, by omega⟩
        have en2 : l.length - (j + 1) = n := by omega
        rw [en] at e
        have e1 : rcn x (n + 1) rs = if ev x rs = 0 then rcn x n (quo x rs) + 1 else 0 := rfl
        refine ⟨_, rfl, _, rfl, rr, x, rs, rfl, .inl (.inl hr3), fun i hi => .inr (pow_small hx (by omega)), by omega, rfl, _, rfl, ?_⟩
        by_cases c : ev x rs = 0
        · rw [decide_eq_true (congrArg V.int c)]
          obtain ⟨l2, q1, q2, q3⟩ := quo_pol nr3 pr3 c
          refine iteT ⟨_, rfl, rr, _, rfl, .inr (.inl (.inl hr3)), _, _, rfl, rfl, _, rfl, ?_⟩
          rw [List.length_map, decide_eq_true (show ((rs.length : Nat) : Int) > 1 by omega)]
          refine iteT ?_
          refine ⟨_, rfl, _, rfl, rr, x, rs, rfl, .inl (.inl hr3), by omega, by omega, by omega, fun t H4 s4 nt ht => ?_⟩
          rw [if_pos c] at e1
          refine ⟨_, rfl, _, _, rfl, rfl, _, t, quo x rs, m + 1, rfl, Same.trans s3 s4, ht, q2, q1, by omega, by rw [en2]; omega⟩
        · rw [decide_eq_false (fun z => c (V.int.inj z))]
          refine iteF (iteF ⟨_, rr, rs, m, rfl, s3, hr3, pr3, nr3, lr3, ?_⟩)
          rw [if_neg c] at e1
          rw [en2, ← e, e1]
          cases n with
          | zero => rfl
          | succ k =>
            show m + (if ev x rs = 0 then rcn x k (quo x rs) + 1 else 0) = _
            rw [if_neg c]
      · obtain ⟨v6, rr, rs, m, rfl, s3, hr3, _, _, _, e⟩ := hP
        rw [Nat.sub_self] at e
        have em : m = rcn x l.length l := e
        subst em
        have hD3 := s3 _ _ hD2
        refine ⟨_, rfl, _, _, rfl, rfl, _, rfl, ?_⟩
        by_cases cr : 0 < rcn x l.length l
        · rw [decide_eq_true (show ((rcn x l.length l : Nat) : Int) > 0 by omega)]
          refine iteT ?_
          refine ⟨_, rfl, .inl ⟨rfl, _, .inl (.inl hD3)⟩, _, rfl, _, rfl, (by show 2 ≤ sizeLine; decide), fun p np => ?_⟩
          have s4 := same_upd (o := .tup [.int x, .int (rcn x l.length l : Nat)]) np
          have hD4 := s4 _ _ hD3
          refine ⟨D, _, _, rfl, rfl, hD4, by omega, ?_⟩
          refine ⟨_, _, _, _, us ++ [.ref p], rfl, Same.mut (Same.trans s2 (Same.trans s3 s4)) nD, upd_same, by rw [List.length_append]; exact Nat.succ_le_succ lu, ?_⟩
          rw [er]
          unfold rtD
          rw [if_pos cr]
          refine paired_snoc ?_ (Paired.mapP pr fun _ _ h => ((h.same s3).same s4).but SameBut.upd hD4)
          exact (Val1.pair upd_same).but SameBut.upd hD4
        · rw [decide_eq_false (show ¬ ((rcn x l.length l : Nat) : Int) > 0 by omega)]
          refine iteF ⟨_, _, _, _, us, rfl, Same.trans s2 s3, hD3, by omega, ?_⟩
          rw [er]
          unfold rtD
          rw [if_neg cr, List.append_nil]
          exact Paired.mapP pr fun _ _ h => h.same s3
    · obtain ⟨v3, v4, v5, v6, us, rfl, s2, hD2, lu, pr⟩ := hP
      refine ⟨_, rfl, q D us H' s2 nD hD2 ?_⟩
      rw [Int.zero_sub] at pr
      exact pr
end

/-- a tuple of these integers -/
def TP (H : Hp) (v : V) (z : List Int) : Prop := ∃ t, v = .ref t ∧ H t = some (.tup (z.map V.int))
theorem TP.same {H H' : Hp} {v : V} {z : List Int} (s : Same H H') (h : TP H v z) : TP H' v z := by
  obtain ⟨t, rfl, h⟩ := h
  exact ⟨t, rfl, s _ _ h⟩
def dT (z : List Int) : PyData := .tuple (z.map PyData.int)
theorem ints_dp {K : PySem.W.Frag} {H : Hp} : ∀ z : List Int, DpAll K H (z.map V.int) (z.map PyData.int)
  | [] => .nil
  | a :: r => .cons (.int a) (ints_dp r)
theorem TP.dp {K : PySem.W.Frag} {H : Hp} {v : V} {z : List Int} (h : TP H v z) : Dp K H v (dT z) := by
  obtain ⟨t, rfl, h⟩ := h
  exact .tup (.inl (.inl h)) (ints_dp z)
theorem tps_dp {K : PySem.W.Frag} {H : Hp} : ∀ {vs : List V} {zs : List (List Int)}, Paired (TP H) vs zs → DpAll K H vs (zs.map dT)
  | _, _, .nil => .nil
  | _, _, .cons a b => .cons a.dp (tps_dp b)
theorem paired_add {α β : Type} {F : α → β → Prop} {a : α} {b : β} (h : F a b) : ∀ {l : List α} {m : List β}, Paired F l m → Paired F (l ++ [a]) (m ++ [b])
  | _, _, .nil => .cons h .nil
  | _, _, .cons x y => .cons x (paired_add h y)
theorem dT_small {z : List Int} (h : ∀ k, (co z k).natAbs < 2 ^ 200) : SmL 1 (1923 * z.length + 3) (dT z) := by
  have e := smL_tuple (ds := z.map PyData.int) (n := 0) (k := 1921) fun D hD => by
    obtain ⟨a, ha, rfl⟩ := List.mem_map.mp hD
    obtain ⟨i, hi, rfl⟩ := List.mem_iff_getElem.mp ha
    have e1 := co_get hi
    rw [List.getElem?_eq_getElem hi] at e1
    rw [Option.some.inj e1]
    exact smL_int (h i)
  rw [List.length_map] at e
  exact e
theorem SmL.more {n k k' : Nat} {D : PyData} (h : SmL n k D) (hk : k ≤ k') : SmL n k' D := by
  obtain ⟨h1, h2, h3, h4⟩ := h
  exact ⟨h1, h2, h3, Nat.le_trans h4 hk⟩
theorem repT {α : Type} (x : α) : ∀ n : Nat, (List.replicate n [x]).flatten = List.replicate n x
  | 0 => rfl
  | n + 1 => by rw [List.replicate_succ, List.flatten_cons, repT x n, List.replicate_succ]; rfl
def rCatB (K : PySem.W.Frag) : R2 := fun x y H Q => ∃ a b xs ys, x = .ref a ∧ y = .ref b ∧ SqT K H a xs ∧ SqT K H b ys ∧ xs.length + ys.length ≤ sizeLine ∧ ∀ p H', Same H H' → SqT K H' p (xs ++ ys) → Q (.ref p) H'
theorem op_catB {X : Cx} : OpR X (binaryOp .Add) (rCatB X.K) := by
  intro pins s σ H x y v u Q I rx ry h
  obtain ⟨a, b, xs, ys, rfl, rfl, ha, hb, hz, q⟩ := h
  refine op_catA pins s σ H _ _ v u Q I rx ry ⟨a, b, xs, ys, rfl, rfl, ha, hb, hz, fun e => ?_, fun _ e => ?_, fun _ _ p np => ?_⟩
  · exact q b H (Same.refl _) (by rw [e, List.nil_append]; exact hb)
  · exact q a H (Same.refl _) (by rw [e, List.append_nil]; exact ha)
  · exact q p _ (same_upd np) (.inl (.inl upd_same))
theorem sqT_butL {K : PySem.W.Frag} {H H' : Hp} {r a : Addr} {xs ys : List V} (hr : H r = some (.lst ys)) (e : SameBut r H H') (h : SqT K H a xs) : SqT K H' a xs := by
  rcases h with (h | ⟨o, h⟩) | h
  · exact .inl (.inl (e _ _ (ne_of h hr (fun z => nomatch z)) h))
  · exact .inl (.inr ⟨o, e _ _ (ne_of h hr (fun z => nomatch z)) h⟩)
  · exact .inr h
theorem eqvAll_ints : ∀ x y : List Int, PyData.eqvAll (x.map PyData.int) (y.map PyData.int) = decide (x = y)
  | [], [] => by simp [PyData.eqvAll]
  | [], _ :: _ => by simp [PyData.eqvAll]
  | _ :: _, [] => by simp [PyData.eqvAll]
  | a :: x, b :: y => by
    rw [List.map_cons, List.map_cons]
    simp only [PyData.eqvAll, PyData.eqv, eqvAll_ints x y]
    by_cases h1 : a = b
    · by_cases h2 : x = y
      · simp [h1, h2]
      · simp [h2]
    · simp [h1]
theorem eqv_dT (x y : List Int) : PyData.eqv (dT x) (dT y) = decide (x = y) := by
  unfold dT
  simp only [PyData.eqv, eqvAll_ints]
theorem lay_ints : ∀ x : List Int, PyData.canLayAll0 (x.map PyData.int) = true ∧ PyData.depthAll (x.map PyData.int) = 0
  | [] => ⟨by simp [PyData.canLayAll0], by simp [PyData.depthAll]⟩
  | a :: x => by
    obtain ⟨h1, h2⟩ := lay_ints x
    exact ⟨by simp [PyData.canLayAll0, PyData.canLay0, h1], by simp [PyData.depthAll, PyData.depth, h2]⟩
theorem dT_shaped (x : List Int) : SeqAt.shaped (dT x) = true := by
  obtain ⟨h1, h2⟩ := lay_ints x
  show (PyData.canLay0 (dT x) && decide (PyData.depth (dT x) ≤ 64)) = true
  unfold dT
  rw [show PyData.canLay0 (.tuple (x.map PyData.int)) = true by simp [PyData.canLay0, h1], show PyData.depth (.tuple (x.map PyData.int)) = 1 by simp [PyData.depth, h2]]
  rfl
theorem eqD_TP {K : PySem.W.Frag} {H : Hp} {u v : V} {x y : List Int} {Q : VK} (hx : TP H u x) (hy : TP H v y) (q : Q (.bl (decide (x = y))) H) : rEqD K u v H Q :=
  ⟨_, _, hx.dp, hy.dp, dT_shaped x, dT_shaped y, by rw [eqv_dT]; exact q⟩
theorem neD_TP {K : PySem.W.Frag} {H : Hp} {u v : V} {x y : List Int} {Q : VK} (hx : TP H u x) (hy : TP H v y) (q : Q (.bl (!decide (x = y))) H) : rNeD K u v H Q :=
  ⟨_, _, hx.dp, hy.dp, dT_shaped x, dT_shaped y, by rw [eqv_dT]; exact q⟩
def rRepB (K : PySem.W.Frag) : R2 := fun x y H Q => ∃ l k xs, x = .ref l ∧ y = .int k ∧ SqT K H l xs ∧ xs ≠ [] ∧ 0 ≤ k ∧ k ≤ 1000 ∧ xs.length ≤ 1000 ∧ ∀ p H', Same H H' → SqT K H' p (List.replicate k.toNat xs).flatten → Q (.ref p) H'
theorem op_repB {X : Cx} : OpR X (binaryOp .Mult) (rRepB X.K) := by
  intro pins s σ H x y v u Q I rx ry h
  obtain ⟨l, k, xs, rfl, rfl, hT, hne, h1, h2, hz, q⟩ := h
  refine op_repA pins s σ H _ _ v u Q I rx ry ⟨l, k, xs, rfl, rfl, hT, hne, h1, h2, hz, fun e => ?_, fun _ p np => ?_⟩
  · refine q l H (Same.refl _) ?_
    rw [e, show (1 : Int).toNat = 1 from rfl]
    simpa using hT
  · exact q p _ (same_upd np) (.inl (.inl upd_same))
theorem ix_tupK {X : Cx} {K : PySem.W.Frag} (hK : X.K = K) : IxR X (rIxT K) := by
  subst hK
  exact ix_tup
theorem ix_listK {X : Cx} {K : PySem.W.Frag} (hK : X.K = K) : IxR X (rIxL K) := by
  subst hK
  exact ix_list
theorem ite_same {x : V} {A B : Prop} (h : B) : if (!decide (x = x)) = true then A else B := by
  rw [decide_eq_true rfl]
  exact iteF h
theorem pi_tupK {X : Cx} {K : PySem.W.Frag} {tg e : Expr} {te : TE} (hK : X.K = K) (he : PE X e te) : PI X tg e (iTup K te) := by
  subst hK
  exact pi_tup he
theorem call_list_ofK {X : Cx} {K : PySem.W.Frag} (hK : X.K = K) : CallR X (.type "list") (fun xs H Q => ∃ p ys, xs = [.ref p] ∧ (SqL K H p ys ∨ SqT K H p ys) ∧ ∀ l, H l = none → Q (.ref l) (upd H l (.lst ys))) := by
  subst hK
  exact call_list_of
theorem op_eqDK {X : Cx} {K : PySem.W.Frag} (hK : X.K = K) (hu : X.A.units + 64 < cLine) : OpR X (compareOp .Eq) (rEqD K) := by
  subst hK
  exact op_eqD hu

theorem conv_small {l m : List Int} (hl : SmP l) (hm : SmP m) (k : Nat) : ∀ i, (conv l m i k).natAbs ≤ 25 * i
  | 0 => Nat.zero_le _
  | i + 1 => by
    have ih := conv_small hl hm k i
    have r : (row l m i k).natAbs ≤ 25 := by
      unfold row
      split
      · rw [Int.natAbs_mul]
        exact Nat.mul_le_mul (hl i) (hm (k - i))
      · decide
    show (conv l m i k + row l m i k).natAbs ≤ _
    omega
theorem ev_small {x : Int} (hx : x.natAbs ≤ 31) : ∀ {l : List Int}, (∀ y ∈ l, y.natAbs ≤ 5) → (ev x l).natAbs ≤ 5 * 32 ^ l.length
  | [], _ => Nat.zero_le _
  | a :: r, h => by
    have ih := ev_small hx (l := r) fun y hy => h y (List.mem_cons_of_mem _ hy)
    have ha := h a List.mem_cons_self
    have hm : (x * ev x r).natAbs ≤ 31 * (5 * 32 ^ r.length) := by
      rw [Int.natAbs_mul]
      exact Nat.mul_le_mul hx ih
    have hp : 0 < 32 ^ r.length := Nat.pow_pos (by decide)
    show (a + x * ev x r).natAbs ≤ 5 * 32 ^ (r.length + 1)
    rw [Nat.pow_succ]
    omega
theorem smP_mem {l : List Int} (h : SmP l) : ∀ y ∈ l, y.natAbs ≤ 5 := fun y hy => by
  obtain ⟨i, hi, rfl⟩ := List.mem_iff_getElem.mp hy
  have e1 := co_get hi
  rw [List.getElem?_eq_getElem hi] at e1
  rw [Option.some.inj e1]
  exact h i
theorem cm_small {l m : List Int} (h : ∀ y ∈ l, y.natAbs ≤ 5) : ∀ x ∈ l, ∀ y ∈ m, CMul x y := fun x hx y _ => .inl (by have := h x hx; exact ⟨by omega, by omega⟩)
theorem isP_app0 {l : List Int} (h : l.length ≤ 100) : isP (l ++ [0]) = false := by
  unfold isP
  rw [if_neg (by rw [List.length_append]; show ¬ ((l.length + 1 : Nat) : Int) > 200; omega), if_neg (by rw [List.length_append]; show ¬ l.length + 1 = 0; omega)]
  have : co (l ++ [0]) ((l ++ [0]).length - 1) = 0 := by
    rw [List.length_append, show l.length + [(0 : Int)].length - 1 = l.length from rfl]
    unfold co
    rw [List.getD_eq_getElem?_getD, List.getElem?_append_right (Nat.le_refl _), Nat.sub_self]
    rfl
  rw [this]
  rfl

structure ErrT (K : PySem.W.Frag) (mg : Str → Option Value) (CE CB CN CP : Addr) : Prop where
  ge : mg "WorthError" = some (.ref CE)
  ebc : PySem.W.subIn K (.ref CE) (.type "BaseException") = some true
  ehd : PySem.W.hasDictIn K CE = true
  ety : PySem.W.typeIn K (.ref CE) = some (.type "type")
  g_b : mg "BadNumber" = some (.ref CB)
  x_b : ExcC K CB
  e_b : PySem.W.subIn K (.ref CB) (.ref CE) = some true
  g_n : mg "NoAnswer" = some (.ref CN)
  x_n : ExcC K CN
  e_n : PySem.W.subIn K (.ref CN) (.ref CE) = some true
  g_p : mg "NotPoly" = some (.ref CP)
  x_p : ExcC K CP
  e_p : PySem.W.subIn K (.ref CP) (.ref CE) = some true
  k_bb : PySem.W.kitOne K (.ref CB) (.ref CB) = some true
  k_bn : PySem.W.kitOne K (.ref CB) (.ref CN) = some false
  k_bp : PySem.W.kitOne K (.ref CB) (.ref CP) = some false
  k_nb : PySem.W.kitOne K (.ref CN) (.ref CB) = some false
  k_nn : PySem.W.kitOne K (.ref CN) (.ref CN) = some true
  k_np : PySem.W.kitOne K (.ref CN) (.ref CP) = some false
  k_pb : PySem.W.kitOne K (.ref CP) (.ref CB) = some false
  k_pn : PySem.W.kitOne K (.ref CP) (.ref CN) = some false
  k_pp : PySem.W.kitOne K (.ref CP) (.ref CP) = some true
def rAddStr : R2 := fun x y H Q => ∃ i j, x = .str i ∧ y = .str j ∧ i.length + j.length ≤ sizeLine ∧ Q (.str (i ++ j)) H
def t_suite (K : PySem.W.Frag) (CB CN CP ax : Addr) (cls : Value) (dx : Option Addr) : TS :=
  tSeq (tAsg (tLst (tCons (tCB (rIsE' K cls dx ax) (tCons (tVar 2) (tCons (tC (.ref CB)) tNil))) (tCons (tCB (rIsE' K cls dx ax) (tCons (tVar 2) (tCons (tC (.ref CN)) tNil))) (tCons (tCB (rIsE' K cls dx ax) (tCons (tVar 2) (tCons (tC (.ref CP)) tNil))) tNil)))) (gName 3))
  (tRet (tOp rAddStr (tC (.str "!")) (tOp rIxS (tC (.str "bnp")) (tBM K "list" (rIndex K) (tVar 3) (tCons (tC (.bl true)) tNil)))))
theorem suite_told {K : PySem.W.Frag} {CB CN CP C ax : Addr} {b0 b1 b2 : Bool} {v0 v1 v3 : Option V} {H : Hp} {D : Ends} {j c : Nat} (hC : ExcC K C) (h0 : PySem.W.kitOne K (.ref C) (.ref CB) = some b0) (h1 : PySem.W.kitOne K (.ref C) (.ref CN) = some b1) (h2 : PySem.W.kitOne K (.ref C) (.ref CP) = some b2)
    (hj : [V.bl b0, V.bl b1, V.bl b2][j]? = some (.bl true)) (hno : ∀ (m : Nat) (z' : V), m < j → [V.bl b0, V.bl b1, V.bl b2][m]? = some z' → eqV z' (.bl true) = false) (hc : atI ("bnp" : Str).cps.toList (j : Int) = some c)
    (q : ∀ H', Same H H' → D.rt (.str (("!" : Str) ++ ⟨#[c]⟩)) H') : t_suite K CB CN CP ax (.ref C) none D [v0, v1, some (.ref ax), v3] H := by
  refine ⟨_, rfl, C, rfl, rfl, hC, _, _, b0, rfl, fun _ r => r, h0, _, rfl, C, rfl, rfl, hC, _, _, b1, rfl, fun _ r => r, h1, _, rfl, C, rfl, rfl, hC, _, _, b2, rfl, fun _ r => r, h2, (by show 3 ≤ sizeLine; decide), fun l nl => ?_⟩
  refine ⟨.ref l, rfl, .inl ⟨rfl, _, .inl (.inl upd_same)⟩, l, _, .bl true, j, .bl true, rfl, rfl, .inl (.inl upd_same), rfl, rfl, hj, rfl, hno, ?_⟩
  exact ⟨_, _, c, rfl, rfl, (by show 3 ≤ sizeLine; decide), hc, _, _, rfl, rfl, (by show 2 ≤ sizeLine; decide), q _ (same_upd nl)⟩
theorem suite_b {K : PySem.W.Frag} {mg : Str → Option Value} {CE CB CN CP ax : Addr} {v0 v1 v3 : Option V} {H : Hp} {D : Ends} {Q : VK} (T : ErrT K mg CE CB CN CP) (q : ∀ H2, Same H H2 → Q (.str "!b") H2) (eD : D.rt = Q) : t_suite K CB CN CP ax (.ref CB) none D [v0, v1, some (.ref ax), v3] H :=
  suite_told (j := 0) (c := 98) T.x_b T.k_bb T.k_bn T.k_bp rfl (fun m z' hm hz => by
    exact absurd hm (Nat.not_lt_zero _)) rfl fun H2 s2 => by
    rw [eD]
    exact q _ s2
theorem suite_n {K : PySem.W.Frag} {mg : Str → Option Value} {CE CB CN CP ax : Addr} {v0 v1 v3 : Option V} {H : Hp} {D : Ends} {Q : VK} (T : ErrT K mg CE CB CN CP) (q : ∀ H2, Same H H2 → Q (.str "!n") H2) (eD : D.rt = Q) : t_suite K CB CN CP ax (.ref CN) none D [v0, v1, some (.ref ax), v3] H :=
  suite_told (j := 1) (c := 110) T.x_n T.k_nb T.k_nn T.k_np rfl (fun m z' hm hz => by
    rcases (show m = 0 by omega) with rfl
    · cases hz
      rfl) rfl fun H2 s2 => by
    rw [eD]
    exact q _ s2
theorem suite_p {K : PySem.W.Frag} {mg : Str → Option Value} {CE CB CN CP ax : Addr} {v0 v1 v3 : Option V} {H : Hp} {D : Ends} {Q : VK} (T : ErrT K mg CE CB CN CP) (q : ∀ H2, Same H H2 → Q (.str "!p") H2) (eD : D.rt = Q) : t_suite K CB CN CP ax (.ref CP) none D [v0, v1, some (.ref ax), v3] H :=
  suite_told (j := 2) (c := 112) T.x_p T.k_pb T.k_pn T.k_pp rfl (fun m z' hm hz => by
    rcases (show m = 0 ∨ m = 1 by omega) with rfl | rfl
    · cases hz
      rfl
    · cases hz
      rfl) rfl fun H2 s2 => by
    rw [eD]
    exact q _ s2

/-- what _law_told tells -/
structure Told6 (l : List Int) (most : Int) (H : Hp) (v : V) : Prop where
  p : isP l = false → v = .str "!p"
  n : l = [] → v = .str "!n"
  b : isP l = true → l ≠ [] → ¬ (0 ≤ most ∧ most ≤ 1000) → v = .str "!b"
  s : isP l = true → l ≠ [] → 0 ≤ most → most ≤ 1000 → ∃ D us, v = .ref D ∧ H D = some (.lst us) ∧ Paired (Val1 H) us (rootsD l (-most) (most + 1 - -most).toNat)
section
variable {P : Program} {w : World} {K : PySem.W.Frag} {mg : Str → Option Value} {base : Heap}
def spTold6 (K : PySem.W.Frag) : Sp := fun vs H Q _ => ∃ (a : Addr) (most : Int) (l : List Int), vs = [.ref a, .int most] ∧ SqT K H a (l.map V.int) ∧ ∀ v H', Same H H' → Told6 l most H' v → Q v H'
theorem ok_told {f CE CP CB CN a_roots : Addr} {fd fd_roots : FuncData} (F : Fun K "_law_told" "_law_told" s_law_told f fd) (T : ErrT K mg CE CB CN CP) (z_isinstance : mg "isinstance" = none)
    (G_roots : FnOk P w K mg base (L2.CX P w) 3 a_roots fd_roots ["poly", "most"] (spRoots K CP CB CN)) (g_roots : mg "roots" = some (.ref a_roots)) (k_roots : PySem.W.keepIn K (.ref a_roots) = true) (bK_roots : KBn K fd_roots ["poly", "most"] 1 ["most"] (fun us ws => us ++ ws) (fun vs zs => vs ++ zs)) :
    FnOk P w K mg base CX0 4 f fd ["poly", "most"] (spTold6 K) := by
  have gc_WorthError := T.ge
  have m_NotPoly := T.g_p
  have m_BadNumber := T.g_b
  have m_NoAnswer := T.g_n
  have r_NotPoly : RelV (.ref CP) (.ref CP) := rfl
  have r_BadNumber : RelV (.ref CB) (.ref CB) := rfl
  have r_NoAnswer : RelV (.ref CN) (.ref CN) := rfl
  have eP := PySem.W.exm_ref T.ebc T.ehd T.ety T.e_p
  have eB := PySem.W.exm_ref T.ebc T.ehd T.ety T.e_b
  have eN := PySem.W.exm_ref T.ebc T.ehd T.ety T.e_n
  have iP0 : isP [] = true := by decide
  refine F.ok sc_law_told (fun vs H Q E h => ?_) (fun cdv A outer s H vs Q E hr1 h => ?_)
  · obtain ⟨a, most, l, rfl, _⟩ := h
    rfl
  · obtain ⟨a, most, l, rfl, ha, q⟩ := h
    refine ⟨_, (pss_one (ps_try_as (i := 2) (Wout := fun _ _ _ _ => False) rfl rfl sc_law_told.nd rfl rfl ⟨rfl, by decide, .inl gc_WorthError⟩ takes0 (fun W pn xe tk _ => by exact (pss_one (ps_ret (pe_callNS G_roots (hr1.mono (by decide)) rfl g_roots k_roots bK_roots (fun σ => passAt tk σ) (pa_cons (pv 0) pa_nil) (pk_cons (pv 1) pk_nil))))) (fun ax oe cls dx pn hz hf => by exact (pss_cons (ps_set (i := 3) sc_law_told.nd rfl (.inl rfl) (pe_lst (pa_cons (pe_callB (call_isE' hz hf) (by rfl) z_isinstance boot_isinstance (pa_cons (pv 2) (pa_cons (pe_glob rfl m_BadNumber r_BadNumber) pa_nil))) (pa_cons (pe_callB (call_isE' hz hf) (by rfl) z_isinstance boot_isinstance (pa_cons (pv 2) (pa_cons (pe_glob rfl m_NoAnswer r_NoAnswer) pa_nil))) (pa_cons (pe_callB (call_isE' hz hf) (by rfl) z_isinstance boot_isinstance (pa_cons (pv 2) (pa_cons (pe_glob rfl m_NotPoly r_NotPoly) pa_nil))) pa_nil)))))
  (pss_one (ps_ret (pe_op op_add_str pe_str (pe_ix ix_str pe_str (pe_indexK (K := K) rfl (pv 3) (pa_cons pe_bl pa_nil)) (fun _ _ => rfl))))))))), ?_⟩
    refine ⟨_, rfl, _, rfl, rfl, rfl, a, most, l, rfl, ha, fun e1 => ?_, fun e1 => ⟨fun el => ?_, fun el => ⟨fun nb => ?_, fun m0 m1 D us H' s' nD hD pr => ?_⟩⟩⟩
    · exact ⟨true, eP, fun _ ax _ => suite_p T (fun H2 s2 => q (.str "!p") H2 s2 ⟨fun _ => rfl, (fun z => by rw [z, iP0] at e1; exact nomatch e1), (fun z => by rw [e1] at z; exact nomatch z), (fun z => by rw [e1] at z; exact nomatch z)⟩) rfl, fun z => nomatch z⟩
    · exact ⟨true, eN, fun _ ax _ => suite_n T (fun H2 s2 => q (.str "!n") H2 s2 ⟨(fun z => by rw [e1] at z; exact nomatch z), fun _ => rfl, fun _ z => absurd el z, fun _ z => absurd el z⟩) rfl, fun z => nomatch z⟩
    · exact ⟨true, eB, fun _ ax _ => suite_b T (fun H2 s2 => q (.str "!b") H2 s2 ⟨(fun z => by rw [e1] at z; exact nomatch z), fun z => absurd z el, fun _ _ _ => rfl, fun _ _ z1 z2 => absurd ⟨z1, z2⟩ nb⟩) rfl, fun z => nomatch z⟩
    · exact q (.ref D) H' s' ⟨(fun z => by rw [e1] at z; exact nomatch z), fun z => absurd z el, fun _ _ z => absurd ⟨m0, m1⟩ z, fun _ _ _ _ => ⟨D, us, rfl, hD, pr⟩⟩
end

theorem prod_len {l m zs : List Int} (pz : Pol zs) (nm : m ≠ []) (c : ∀ k, co zs k = conv l m l.length k) : zs.length ≤ l.length + m.length - 1 := by
  rcases pz with rfl | pz
  · exact Nat.zero_le _
  · refine Decidable.byContradiction fun z => pz ?_
    have n0 := List.length_pos_iff.mpr nm
    rw [c, conv_top l m l.length (Nat.le_refl _) (by omega)]
theorem prod_ne {l m zs : List Int} (pl : Pol l) (pm : Pol m) (nl : l ≠ []) (nm : m ≠ []) (c : ∀ k, co zs k = conv l m l.length k) : zs ≠ [] := fun z => by
  have e := conv_lead nl nm
  rw [← c, z, co_ge (Nat.zero_le _)] at e
  exact Int.mul_ne_zero (pl.resolve_left nl) (pm.resolve_left nm) e.symm
theorem rcn_le (x : Int) : ∀ (n : Nat) (l : List Int), rcn x n l ≤ n
  | 0, _ => Nat.le_refl _
  | n + 1, l => by
    show (if ev x l = 0 then rcn x n (quo x l) + 1 else 0) ≤ n + 1
    have := rcn_le x n (quo x l)
    split <;> omega
theorem rootsD_mem {l : List Int} {lo : Int} : ∀ {n : Nat} {d : PyData}, d ∈ rootsD l lo n → ∃ x : Int, lo ≤ x ∧ x < lo + n ∧ d = .tuple [.int x, .int (rcn x l.length l : Nat)]
  | 0, d, h => nomatch h
  | n + 1, d, h => by
    rcases List.mem_append.mp h with h | h
    · obtain ⟨x, h1, h2, h3⟩ := rootsD_mem h
      exact ⟨x, h1, by omega, h3⟩
    · unfold rtD at h
      split at h
      · exact ⟨lo + n, by omega, by omega, List.mem_singleton.mp h⟩
      · exact nomatch h
theorem rootsD_len {l : List Int} {lo : Int} : ∀ n : Nat, (rootsD l lo n).length ≤ n
  | 0 => Nat.le_refl _
  | n + 1 => by
    have := rootsD_len (l := l) (lo := lo) n
    show (rootsD l lo n ++ rtD l (lo + (n : Int))).length ≤ n + 1
    rw [List.length_append]
    have h2 : (rtD l (lo + (n : Int))).length ≤ 1 := by
      unfold rtD
      split
      · exact Nat.le_refl 1
      · exact Nat.zero_le 1
    omega
theorem rootsD_add {l : List Int} {lo : Int} (a : Nat) : ∀ b : Nat, rootsD l lo (a + b) = rootsD l lo a ++ rootsD l (lo + a) b
  | 0 => (List.append_nil _).symm
  | b + 1 => by
    show rootsD l lo (a + b) ++ rtD l (lo + ((a + b : Nat) : Int)) = rootsD l lo a ++ (rootsD l (lo + a) b ++ rtD l (lo + a + (b : Int)))
    rw [rootsD_add a b, List.append_assoc, show lo + ((a + b : Nat) : Int) = lo + a + (b : Int) by omega]
def near : PyData → Bool
  | .tuple [.int x, _] => decide (x.natAbs ≤ 40)
  | _ => false
theorem near_all {l : List Int} {lo : Int} {n : Nat} (h : ∀ x, lo ≤ x → x < lo + n → x.natAbs ≤ 40) : (rootsD l lo n).filter near = rootsD l lo n :=
  List.filter_eq_self.mpr fun d hd => by
    obtain ⟨x, h1, h2, rfl⟩ := rootsD_mem hd
    exact decide_eq_true (h x h1 h2)
theorem near_none {l : List Int} {lo : Int} {n : Nat} (h : ∀ x, lo ≤ x → x < lo + n → 40 < x.natAbs) : (rootsD l lo n).filter near = [] :=
  List.filter_eq_nil_iff.mpr fun d hd => by
    obtain ⟨x, h1, h2, rfl⟩ := rootsD_mem hd
    have := h x h1 h2
    intro z
    have : x.natAbs ≤ 40 := of_decide_eq_true z
    omega
theorem near_roots (l : List Int) : (rootsD l (-1000) ((1000 : Int) + 1 - -1000).toNat).filter near = rootsD l (-40) ((40 : Int) + 1 - -40).toNat := by
  rw [show ((1000 : Int) + 1 - -1000).toNat = 960 + (81 + 960) from rfl, show ((40 : Int) + 1 - -40).toNat = 81 from rfl, rootsD_add, rootsD_add, List.filter_append, List.filter_append,
    near_none (fun x h1 h2 => by omega), near_all (fun x h1 h2 => by omega), near_none (fun x h1 h2 => by omega), List.append_nil, List.nil_append]
  rfl
theorem rootsD_sm {l : List Int} {lo : Int} {n : Nat} (hl : l.length ≤ 1000) (h0 : -1000 ≤ lo) (h1 : lo + n ≤ 1001) : SmL 2 16000000 (.list (rootsD l lo n)) := by
  have e := smL_list (n := 1) (k := 4000) (ds := rootsD l lo n) fun D hD => by
    obtain ⟨x, h1, h2, rfl⟩ := rootsD_mem hD
    have := rcn_le x l.length l
    exact smL_pair (by omega) (by omega)
  have := rootsD_len (l := l) (lo := lo) n
  obtain ⟨a, b, c, d⟩ := e
  exact ⟨a, b, c, by omega⟩
theorem val1_pair {H : Hp} {y : V} {u v : Int} (h : Val1 H y (.tuple [.int u, .int v])) : ∃ t, y = .ref t ∧ H t = some (.tup [.int u, .int v]) := by
  cases h with
  | pair h => exact ⟨_, rfl, h⟩
theorem paired_get {α β : Type} {F : α → β → Prop} : ∀ {l : List α} {m : List β}, Paired F l m → ∀ {i : Nat} {a : α}, l[i]? = some a → ∃ b, m[i]? = some b ∧ F a b
  | _, _, .nil, _, _, h => nomatch h
  | _, _, .cons r t, 0, _, h => by
    obtain rfl := Option.some.inj h
    exact ⟨_, rfl, r⟩
  | _, _, .cons r t, i + 1, _, h => paired_get t h
theorem most_tab : ∀ k : Nat, k < 5 → 0 ≤ [(0 : Int), 1, 3, 6, 20].getD k 0 ∧ [(0 : Int), 1, 3, 6, 20].getD k 0 ≤ 20 := by decide
section
variable {P : Program} {w : World} {K : PySem.W.Frag} {mg : Str → Option Value} {base : Heap}
def spLaw (K : PySem.W.Frag) : Sp := fun vs H Q _ => ∃ (a : Addr) (ns : List Int), vs = [.ref a] ∧ SqL K H a (ns.map V.int) ∧ ns.length ≤ 63 ∧ ∀ H', Q (.bl true) H'
theorem ok_law {f CP CB CN a_law_draws a_law_next a_law_poly a_law_times a_law_told a_law_due a_roots : Addr} {fd fd_law_draws fd_law_next fd_law_poly fd_law_times fd_law_told fd_law_due fd_roots : FuncData} {ur : Tok} (F : Fun K "law" "law" s_law f fd)
    (z_repr : mg "repr" = none) (z_int : mg "int" = none) (z_range : mg "range" = none) (z_abs : mg "abs" = none)
    (G_law_draws : FnOk P w K mg base CX0 2 a_law_draws fd_law_draws ["script"] (spDraws K)) (g_law_draws : mg "_law_draws" = some (.ref a_law_draws)) (k_law_draws : PySem.W.keepIn K (.ref a_law_draws) = true) (b_law_draws : Binds K fd_law_draws ["script"] [])
    (G_law_next : FnOk P w K mg base CX0 1 a_law_next fd_law_next ["draws"] spNext) (g_law_next : mg "_law_next" = some (.ref a_law_next)) (k_law_next : PySem.W.keepIn K (.ref a_law_next) = true) (b_law_next : Binds K fd_law_next ["draws"] [])
    (G_law_poly : FnOk P w K mg base CX0 2 a_law_poly fd_law_poly ["draws", "most"] (spLawPoly K)) (g_law_poly : mg "_law_poly" = some (.ref a_law_poly)) (k_law_poly : PySem.W.keepIn K (.ref a_law_poly) = true) (b_law_poly : Binds K fd_law_poly ["draws", "most"] [])
    (G_law_times : FnOk P w K mg base CX0 2 a_law_times fd_law_times ["one", "other"] (spLawTimes K)) (g_law_times : mg "_law_times" = some (.ref a_law_times)) (k_law_times : PySem.W.keepIn K (.ref a_law_times) = true) (b_law_times : Binds K fd_law_times ["one", "other"] [])
    (G_law_told : FnOk P w K mg base CX0 4 a_law_told fd_law_told ["poly", "most"] (spTold6 K)) (g_law_told : mg "_law_told" = some (.ref a_law_told)) (k_law_told : PySem.W.keepIn K (.ref a_law_told) = true) (b_law_told : Binds K fd_law_told ["poly", "most"] [])
    (G_law_due : FnOk P w K mg base CX0 2 a_law_due fd_law_due ["poly", "most"] (spDue6 K)) (g_law_due : mg "_law_due" = some (.ref a_law_due)) (k_law_due : PySem.W.keepIn K (.ref a_law_due) = true) (b_law_due : Binds K fd_law_due ["poly", "most"] [])
    (G_roots : FnOk P w K mg base (L2.CX P w) 3 a_roots fd_roots ["poly", "most"] (spRoots K CP CB CN)) (g_roots : mg "roots" = some (.ref a_roots)) (k_roots : PySem.W.keepIn K (.ref a_roots) = true) (b_roots1 : Binds K fd_roots ["poly", "most"] [Value.int 1000 ur]) :
    FnG P w K mg base 5 f fd ["script"] (spLaw K) := by
  refine F.okG sc_law (fun vs H Q E h => ?_) (fun cdv A outer s H vs Q E hgu hr h => ?_)
  · obtain ⟨a, ns, rfl, _⟩ := h
    rfl
  · obtain ⟨sc, ns, rfl, hS, hlen, q⟩ := h
    refine ⟨_, (pss_cons (ps_set (i := 1) sc_law.nd rfl (.inl rfl) (pe_call G_law_draws (hr.mono (by decide)) rfl g_law_draws k_law_draws b_law_draws .nil pass0 (pa_cons (pv 0) pa_nil)))
  (pss_cons (ps_expr (pe_bm0 PySem.F.plainAttrs_list PySem.F.slot_list_reverse PySem.F.type_list_reverse mt_reverse (pv 1)))
  (pss_cons (ps_set (i := 2) sc_law.nd rfl (.inl rfl) (pe_call G_law_poly (hr.mono (by decide)) rfl g_law_poly k_law_poly b_law_poly .nil pass0 (pa_cons (pv 1) (pa_cons pe_int pa_nil))))
  (Evl.pss_cut (ps_if (pt_cmpR (op_eqD (room64 hr)) (pv 2) (pe_tup pa_nil) (nomark _)) (pss_one (ps_set (i := 2) sc_law.nd rfl (.inl rfl) (pe_tup (pa_cons (pe_op op_add pe_int (pe_op op_mod (pe_callTy call_int1 (by rfl) z_int boot_int (pa_cons (pe_call G_law_next (hr.mono (by decide)) rfl g_law_next k_law_next b_law_next .nil pass0 (pa_cons (pv 1) pa_nil)) pa_nil)) pe_int)) pa_nil)))) pss_nil)
  (pss_cons (ps_for PassesOwn.never rfl (pi_range1 rfl z_range (pa_cons (pe_op op_mod (pe_callTy call_int1 (by rfl) z_int boot_int (pa_cons (pe_call G_law_next (hr.mono (by decide)) rfl g_law_next k_law_next b_law_next .nil pass0 (pa_cons (pv 1) pa_nil)) pa_nil)) pe_int) pa_nil)) (pg_name (i := 3) sc_law.nd rfl (.inl rfl)) (pss_one (ps_set (i := 2) sc_law.nd rfl (.inl rfl) (pe_call G_law_times (hr.mono (by decide)) rfl g_law_times k_law_times b_law_times .nil pass0 (pa_cons (pv 2) (pa_cons (pe_tup (pa_cons (pe_op op_sub pe_int (pe_op op_mod (pe_callTy call_int1 (by rfl) z_int boot_int (pa_cons (pe_call G_law_next (hr.mono (by decide)) rfl g_law_next k_law_next b_law_next .nil pass0 (pa_cons (pv 1) pa_nil)) pa_nil)) pe_int)) (pa_cons pe_int pa_nil))) pa_nil))))))
  (pss_cons (ps_set (i := 4) sc_law.nd rfl (.inl rfl) (pe_ix ix_list (pe_lst (pa_cons pe_int (pa_cons pe_int (pa_cons pe_int (pa_cons pe_int (pa_cons pe_int pa_nil)))))) (pe_op op_mod (pe_callTy call_int1 (by rfl) z_int boot_int (pa_cons (pe_call G_law_next (hr.mono (by decide)) rfl g_law_next k_law_next b_law_next .nil pass0 (pa_cons (pv 1) pa_nil)) pa_nil)) pe_int) (fun _ _ => rfl)))
  (pss_cons (ps_if (pt_cmpR op_ne (pe_callB (cr_reprD hgu (room65 hr)) (by rfl) z_repr boot_repr (pa_cons (pe_call G_law_told (hr.mono (by decide)) rfl g_law_told k_law_told b_law_told .nil pass0 (pa_cons (pv 2) (pa_cons (pv 4) pa_nil))) pa_nil)) (pe_callB (cr_reprD hgu (room65 hr)) (by rfl) z_repr boot_repr (pa_cons (pe_call G_law_due (hr.mono (by decide)) rfl g_law_due k_law_due b_law_due .nil pass0 (pa_cons (pv 2) (pa_cons (pv 4) pa_nil))) pa_nil)) (nomark _)) (pss_one (ps_ret pe_bl)) pss_nil)
  (pss_cons (ps_if (pt_cmpR (op_neD (room64 hr)) (pe_lc (own := [("pair", 5)]) rfl sc_law.nd (pi_list (pe_call G_roots (hr.mono (by decide)) rfl g_roots k_roots b_roots1 (show Vals [V.int 1000] [Value.int 1000 ur] from .cons ⟨ur, rfl⟩ .nil) passL (pa_cons (pv 2) pa_nil))) (blkOk_by (N := ["script", "draws", "poly", "j", "most", "pair"]) (sc := defScope s_law) (by first | decide +kernel | rfl)) (fun _ _ _ _ _ => (pg_name (i := 5) sc_law.nd rfl (.inl rfl))) (fun _ _ _ _ _ => pts_one (pt_cmpR op_le (pe_callB call_abs (by rfl) z_abs boot_abs (pa_cons (pe_ix (ix_tupK (K := K) rfl) (pv 5) pe_int (fun _ _ => rfl)) pa_nil)) pe_int (nomark _))) (fun _ _ _ _ _ => (pv 5))) (pe_call G_law_due (hr.mono (by decide)) rfl g_law_due k_law_due b_law_due .nil pass0 (pa_cons (pv 2) (pa_cons pe_int pa_nil))) (nomark _)) (pss_one (ps_ret pe_bl)) pss_nil)
  (pss_cons (ps_if (L2.PW.pt (pw_or (pt_cmpR op_ne (pe_call G_law_told (hr.mono (by decide)) rfl g_law_told k_law_told b_law_told .nil pass0 (pa_cons (pe_tup pa_nil) (pa_cons pe_int pa_nil))) pe_str (nomark _)) (pw_or (pt_cmpR op_ne (pe_call G_law_told (hr.mono (by decide)) rfl g_law_told k_law_told b_law_told .nil pass0 (pa_cons (pe_tup (pa_cons pe_int pa_nil)) (pa_cons (pe_un un_neg pe_int) pa_nil))) pe_str (nomark _)) (pw_or1 (pt_cmpR op_ne (pe_call G_law_told (hr.mono (by decide)) rfl g_law_told k_law_told b_law_told .nil pass0 (pa_cons (pe_tup pa_nil) (pa_cons (pe_un un_neg pe_int) pa_nil))) pe_str (nomark _)))))) (pss_one (ps_ret pe_bl)) pss_nil)
  (pss_one (ps_ret (pe_and (pe_cmpR op_eq (pe_call G_law_told (hr.mono (by decide)) rfl g_law_told k_law_told b_law_told .nil pass0 (pa_cons (pv 2) (pa_cons (pe_un un_neg pe_int) pa_nil))) pe_str (nomark _)) (pe_one (pe_cmpR op_eq (pe_call G_law_told (hr.mono (by decide)) rfl g_law_told k_law_told b_law_told .nil pass0 (pa_cons (pv 2) (pa_cons pe_int pa_nil))) pe_str (nomark _))))))))))))))), ?_⟩
    have szl : 3000 ≤ sizeLine := by decide
    refine ⟨_, rfl, sc, ns, rfl, hS, hlen, fun H1 r ds s1 nr hL => ?_⟩
    refine ⟨_, rfl, .inl ⟨rfl, _, .inl (.inl hL)⟩, r, _, rfl, rfl, hL, ?_⟩
    rw [← List.map_reverse]
    generalize ds.reverse = ds1
    refine ⟨_, rfl, r, ds1, 3, rfl, by decide, upd_same, fun o1 l ds2 H2 sb2 hL2 n2 ho1 pl sml ll => ?_⟩
    have hr1 : r ≠ o1 := ne_of hL2 ho1 (fun z => nomatch z)
    refine ⟨fun σ H' => ∃ (o : Addr) (l ds : List Int), σ = [some (.ref sc), some (.ref r), some (.ref o), none, none, none] ∧ H' r = some (.lst (ds.map V.int)) ∧ H' o = some (.tup (l.map V.int)) ∧ Pol l ∧ l ≠ [] ∧ l.length ≤ 3, ?_, ?_⟩
    · refine ⟨_, rfl, (by show 0 ≤ sizeLine; decide), fun e0 ne0 => ?_⟩
      have s3 := same_upd (o := .tup []) ne0
      refine eqD_TP (x := l) (y := []) ⟨o1, rfl, s3 _ _ ho1⟩ ⟨e0, rfl, upd_same⟩ ⟨_, rfl, ?_⟩
      by_cases cl : l = []
      · rw [decide_eq_true cl]
        refine iteT ⟨_, rfl, r, ds2, rfl, s3 _ _ hL2, fun n3 ds3 => .inl ⟨n3, rfl, n3, 5, rfl, rfl, (show (0 : Int) < 5 by decide), _, _, rfl, rfl, (by show 1 ≤ sizeLine; decide), fun t nt => ?_⟩⟩
        have m3 := mod_lt8 n3 (show (0 : Int) < 5 by decide)
        refine ⟨t, [1 + n3 % 5], ds3, rfl, same_upd nt _ _ upd_same, upd_same, .inr ?_, (fun z => nomatch z), (show 1 ≤ 3 by decide)⟩
        show 1 + n3 % 5 ≠ 0
        omega
      · rw [decide_eq_false cl]
        exact iteF ⟨o1, l, ds2, rfl, s3 _ _ hL2, s3 _ _ ho1, pl, cl, ll⟩
    rintro σ H3 ⟨o1, l, ds2, rfl, hL3, ho1, pl, nl, ll⟩
    -- products
    refine ⟨_, rfl, r, ds2, rfl, hL3, fun n4 ds4 => .inl ⟨n4, rfl, n4, 6, rfl, rfl, (show (0 : Int) < 6 by decide), ?_⟩⟩
    obtain ⟨N, hN, eN⟩ : ∃ N : Nat, N ≤ 5 ∧ n4 % 6 = (N : Int) := by
      have m := mod_lt8 n4 (show (0 : Int) < 6 by decide)
      exact ⟨(n4 % 6).toNat, by omega, by omega⟩
    have hr1 : r ≠ o1 := ne_of hL3 ho1 (fun z => nomatch z)
    refine ⟨(N : Int), congrArg (fun z => [V.int z]) eN, by omega, by omega, for_range (lo := 0) (n := N) (fun i σ H' => ∃ (v3 : Option V) (o : Addr) (l ds : List Int), σ = [some (.ref sc), some (.ref r), some (.ref o), v3, none, none] ∧ H' r = some (.lst (ds.map V.int)) ∧ H' o = some (.tup (l.map V.int)) ∧ Pol l ∧ l ≠ [] ∧ l.length ≤ 3 + i)
      ⟨none, o1, l, ds4, rfl, upd_same, by rw [upd_ne (Ne.symm hr1)]; exact ho1, pl, nl, ll⟩ (fun i σ H4 hi hP => ?_) (fun σ H4 hP => ?_)⟩
    · obtain ⟨v3, o, l, ds5, rfl, hL4, ho, pl, nl, ll⟩ := hP
      have hro : r ≠ o := ne_of hL4 ho (fun z => nomatch z)
      refine ⟨_, rfl, _, rfl, r, ds5, rfl, hL4, fun n6 ds6 => .inl ⟨n6, rfl, n6, 13, rfl, rfl, (show (0 : Int) < 13 by decide), _, _, rfl, rfl, (by show 2 ≤ sizeLine; decide), fun t nt => ?_⟩⟩
      have m6 := mod_lt8 n6 (show (0 : Int) < 13 by decide)
      have hL5 : upd (upd H4 r (.lst (ds6.map V.int))) t (.tup [.int (6 - n6 % 13), .int 1]) r = some (.lst (ds6.map V.int)) := same_upd nt _ _ upd_same
      have ho5 : upd (upd H4 r (.lst (ds6.map V.int))) t (.tup [.int (6 - n6 % 13), .int 1]) o = some (.tup (l.map V.int)) := same_upd nt _ _ (by rw [upd_ne (Ne.symm hro)]; exact ho)
      have pm : Pol [6 - n6 % 13, 1] := .inr (by show (1 : Int) ≠ 0; decide)
      refine ⟨o, t, l, [6 - n6 % 13, 1], rfl, .inl (.inl ho5), .inl (.inl upd_same), (fun x _ y hy => ?_), by omega, (by show 2 ≤ 1000; decide), fun t2 zs H5 s5 nt2 ht2 pz cz lz => ?_⟩
      · rcases List.mem_cons.mp hy with rfl | hy
        · exact .inr ⟨by omega, by omega⟩
        · rw [List.mem_singleton.mp hy]
          exact .inr ⟨by decide, by decide⟩
      · have lz2 := prod_len pz (List.cons_ne_nil _ _) cz
        have : [6 - n6 % 13, (1 : Int)].length = 2 := rfl
        exact ⟨_, t2, zs, ds6, rfl, s5 _ _ hL5, ht2, pz, prod_ne pl pm nl (List.cons_ne_nil _ _) cz, by omega⟩
    obtain ⟨v3, o, l, ds5, rfl, hL4, ho, pl, nl, ll⟩ := hP
    have hro : r ≠ o := ne_of hL4 ho (fun z => nomatch z)
    have el := pol_isP pl (by omega)
    -- most
    refine ⟨(by show 5 ≤ sizeLine; decide), fun g ng => ⟨_, rfl, r, ds5, rfl, same_upd ng _ _ hL4, fun n6 ds6 => .inl ⟨n6, rfl, n6, 5, rfl, rfl, (show (0 : Int) < 5 by decide), ?_⟩⟩⟩
    have m6 := mod_lt8 n6 (show (0 : Int) < 5 by decide)
    have hg : upd (upd H4 g (.lst [.int 0, .int 1, .int 3, .int 6, .int 20])) r (.lst (ds6.map V.int)) g = some (.lst ([(0 : Int), 1, 3, 6, 20].map V.int)) := by rw [upd_ne (ne_of_none hL4 ng).symm, upd_same]; rfl
    have ho6 : upd (upd H4 g (.lst [.int 0, .int 1, .int 3, .int 6, .int 20])) r (.lst (ds6.map V.int)) o = some (.tup (l.map V.int)) := by rw [upd_ne (Ne.symm hro)]; exact same_upd ng _ _ ho
    refine ⟨g, _, _, _, rfl, rfl, .inl (.inl hg), at_tab m6.1 (by show _ < ((5 : Nat) : Int); omega), ?_⟩
    have mt := most_tab (n6 % 5).toNat (by omega)
    revert hg ho6 mt
    generalize upd (upd H4 g (.lst [.int 0, .int 1, .int 3, .int 6, .int 20])) r (.lst (ds6.map V.int)) = H6
    generalize [(0 : Int), 1, 3, 6, 20].getD (n6 % 5).toNat 0 = most
    intro _ ho6 mt
    -- told and due
    refine ⟨_, rfl, _, rfl, o, most, l, rfl, .inl (.inl ho6), fun v H7 s7 told => ?_⟩
    obtain ⟨D, us, rfl, hD, pr⟩ := told.s el nl mt.1 (by omega)
    have eN2 : (most + 1 - -most).toNat = 2 * most.toNat + 1 := by omega
    have sm := rootsD_sm (l := l) (lo := -most) (n := (most + 1 - -most).toNat) (by omega) (by omega) (by omega)
    refine ⟨.ref D, _, rfl, .lst (.inl (.inl hD)) (vals1_dp pr), sm.shaped (by decide), sm.sho, sm.wide (by decide), ?_⟩
    have ho7 := s7 _ _ ho6
    refine ⟨_, rfl, _, rfl, o, most, l, rfl, ho7, pl, nl, by omega, mt.1, by omega, fun D2 us2 H8 s8 _ hD2 pr2 => ?_⟩
    refine ⟨.ref D2, _, rfl, .lst (.inl (.inl hD2)) (vals1_dp pr2), sm.shaped (by decide), sm.sho, sm.wide (by decide), rfl, _, rfl, ?_⟩
    rw [decide_eq_true rfl]
    refine iteF ?_
    have ho8 := s8 _ _ ho7
    clear pr pr2 hD hD2 sm told
    -- the near ones
    refine ⟨_, rfl, o, 1000, l, rfl, .inl (.inl ho8), fun z => (by rw [el] at z; exact nomatch z), fun _ => ⟨fun z => absurd z nl, fun _ => ⟨fun z => absurd ⟨by decide, by decide⟩ z, fun _ _ D us H9 s9 _ hD pr => ?_⟩⟩⟩
    have ho9 := s9 _ _ ho8
    refine ⟨D, rfl, ⟨_, .inl (.inl hD)⟩, fun D3 nD3 => ?_⟩
    have tr9 : ∀ {H' : Hp}, SameBut D3 H9 H' → Same H9 H' := fun sb b o e => sb _ _ (ne_of_none e nD3) e
    refine lc_list (xs := us) (fun i H' => SameBut D3 H9 H' ∧ ∃ ws, H' D3 = some (.lst ws) ∧ ws.length ≤ i ∧ Paired (Val1 H') ws (((rootsD l (-1000) ((1000 : Int) + 1 - -1000).toNat).take i).filter near)) ⟨SameBut.upd, [], upd_same, Nat.le_refl _, .nil⟩ (fun i H' _ hP => .inl (.inl (tr9 hP.1 _ _ hD))) (fun i y H' hi hP => ?_) (fun H' hP => ?_)
    · obtain ⟨sb, ws, hD3, lw, pr3⟩ := hP
      obtain ⟨d, hd, vy⟩ := paired_get pr hi
      obtain ⟨x, x1, x2, rfl⟩ := rootsD_mem (List.mem_of_getElem? hd)
      have st := tr9 sb
      obtain ⟨t, rfl, ht⟩ := val1_pair vy
      refine ⟨rfl, ?_⟩
      refine ⟨_, rfl, t, _, 0, .int x, rfl, rfl, .inl (.inl (st _ _ ht)), atI_nat (j := 0) rfl, x, rfl, _, _, rfl, rfl, _, rfl, ?_⟩
      have ea : (if x < 0 then -x else x) ≤ 40 ↔ x.natAbs ≤ 40 := by
        split <;> omega
      have hlt : i < us.length := (List.getElem?_eq_some_iff.mp hi).1
      have lu : us.length ≤ 2001 := by
        rw [pr.length]
        exact rootsD_len _
      by_cases c : x.natAbs ≤ 40
      · rw [decide_eq_true (ea.mpr c)]
        refine iteT ⟨_, rfl, ws, hD3, by omega, sb.trans SameBut.upd, _, upd_same, by rw [List.length_append]; exact Nat.succ_le_succ lw, ?_⟩
        rw [List.take_succ, hd, List.filter_append, show (some (PyData.tuple [.int x, .int (rcn x l.length l : Nat)])).toList.filter near = [.tuple [.int x, .int (rcn x l.length l : Nat)]] from List.filter_eq_self.mpr fun d hd => by
          rw [List.mem_singleton.mp hd]
          exact decide_eq_true c]
        refine paired_snoc ((vy.same st).but SameBut.upd hD3) (Paired.mapP pr3 fun _ _ h => h.but SameBut.upd hD3)
      · rw [decide_eq_false (fun z => c (ea.mp z))]
        refine iteF ⟨sb, ws, hD3, by omega, ?_⟩
        rw [List.take_succ, hd, List.filter_append, show (some (PyData.tuple [.int x, .int (rcn x l.length l : Nat)])).toList.filter near = [] from List.filter_eq_nil_iff.mpr fun d hd => by
          rw [List.mem_singleton.mp hd]
          exact fun z => c (of_decide_eq_true z), List.append_nil]
        exact pr3
    obtain ⟨sb, ws, hD3, lw, pr3⟩ := hP
    rw [pr.length, List.take_length, near_roots] at pr3
    have st := tr9 sb
    have ho10 := st _ _ ho9
    refine ⟨_, rfl, o, 40, l, rfl, ho10, pl, nl, by omega, by decide, by decide, fun D4 us4 H10 s10 _ hD4 pr4 => ?_⟩
    have sm := rootsD_sm (l := l) (lo := -40) (n := ((40 : Int) + 1 - -40).toNat) (by omega) (by omega) (by decide)
    refine ⟨_, _, .lst (.inl (.inl (s10 _ _ hD3))) (vals1_dp (Paired.mapP pr3 fun _ _ h => h.same s10)), .lst (.inl (.inl hD4)) (vals1_dp pr4), sm.shaped (by decide), sm.shaped (by decide), _, rfl, ?_⟩
    rw [SeqAt.eqv_refl _ sm.lay]
    refine iteF ?_
    have ho11 := s10 _ _ ho10
    clear pr pr3 pr4 sm hD hD3 hD4 ho6 ho7 ho8 ho9
    -- errors
    have iP0 : isP [] = true := by decide
    have iPz : isP [0] = false := by decide +kernel
    refine ⟨(by show 0 ≤ sizeLine; decide), fun t0 nt0 => ?_⟩
    refine ⟨t0, 1, [], rfl, .inl (.inl upd_same), fun v H11 s11 told => ?_⟩
    obtain rfl := told.n rfl
    have ho12 := s11 _ _ (same_upd nt0 _ _ ho11)
    clear s11 told nt0 st
    refine ⟨rfl, _, rfl, ?_⟩
    rw [decide_eq_true rfl]
    refine iteF ?_
    refine ⟨(by show 1 ≤ sizeLine; decide), fun t1 nt1 => ?_⟩
    refine ⟨_, rfl, t1, -1, [0], rfl, .inl (.inl upd_same), fun v H12 s12 told => ?_⟩
    obtain rfl := told.p iPz
    have ho13 := s12 _ _ (same_upd nt1 _ _ ho12)
    clear s12 told nt1
    refine ⟨rfl, _, rfl, ?_⟩
    rw [decide_eq_true rfl]
    refine iteF ?_
    refine ⟨(by show 0 ≤ sizeLine; decide), fun t2 nt2 => ?_⟩
    refine ⟨_, rfl, t2, -1, [], rfl, .inl (.inl upd_same), fun v H13 s13 told => ?_⟩
    obtain rfl := told.n rfl
    have ho14 := s13 _ _ (same_upd nt2 _ _ ho13)
    clear s13 told nt2
    refine ⟨rfl, _, rfl, ?_⟩
    rw [decide_eq_true rfl]
    refine iteF ?_
    refine ⟨_, rfl, _, rfl, o, -1, l, rfl, .inl (.inl ho14), fun v H14 s14 told => ?_⟩
    obtain rfl := told.b el nl (by omega)
    have ho15 := s14 _ _ ho14
    refine ⟨rfl, _, rfl, ?_⟩
    rw [decide_eq_true rfl]
    refine iteT ?_
    refine ⟨_, rfl, o, 1001, l, rfl, .inl (.inl ho15), fun v H15 s15 told => ?_⟩
    obtain rfl := told.b el nl (by omega)
    refine ⟨rfl, ?_⟩
    rw [decide_eq_true rfl]
    exact q _
end

theorem all_mk {P : Program} {w : World} {K : PySem.W.Frag} {h : Heap} {mg : Str → Option Value} {fa : Addr} (X : K.In h) (G : h.Ns mainGlobals mg) (hfa : mg "law" = some (.ref fa))
    {f_law_plain : Addr} {od_law_plain an_law_plain : Option Addr} {sl_law_plain : Array (Option Value)} {oc_law_plain kV_law_plain dc_law_plain pm_law_plain cd_law_plain ct_law_plain : Value}
    {f_law_next : Addr} {od_law_next an_law_next : Option Addr} {sl_law_next : Array (Option Value)} {oc_law_next kV_law_next dc_law_next pm_law_next cd_law_next ct_law_next : Value}
    {f_law_draws : Addr} {od_law_draws an_law_draws : Option Addr} {sl_law_draws : Array (Option Value)} {oc_law_draws kV_law_draws dc_law_draws pm_law_draws cd_law_draws ct_law_draws : Value}
    {f_is_poly : Addr} {od_is_poly an_is_poly : Option Addr} {sl_is_poly : Array (Option Value)} {oc_is_poly kV_is_poly dc_is_poly pm_is_poly cd_is_poly ct_is_poly : Value}
    {f_check_poly : Addr} {od_check_poly an_check_poly : Option Addr} {sl_check_poly : Array (Option Value)} {oc_check_poly kV_check_poly dc_check_poly pm_check_poly cd_check_poly ct_check_poly : Value}
    {f_law_cut : Addr} {od_law_cut an_law_cut : Option Addr} {sl_law_cut : Array (Option Value)} {oc_law_cut kV_law_cut dc_law_cut pm_law_cut cd_law_cut ct_law_cut : Value}
    {f_law_poly : Addr} {od_law_poly an_law_poly : Option Addr} {sl_law_poly : Array (Option Value)} {oc_law_poly kV_law_poly dc_law_poly pm_law_poly cd_law_poly ct_law_poly : Value}
    {f_law_times : Addr} {od_law_times an_law_times : Option Addr} {sl_law_times : Array (Option Value)} {oc_law_times kV_law_times dc_law_times pm_law_times cd_law_times ct_law_times : Value}
    {f_split_off_ : Addr} {od_split_off_ an_split_off_ : Option Addr} {sl_split_off_ : Array (Option Value)} {oc_split_off_ kV_split_off_ dc_split_off_ pm_split_off_ cd_split_off_ ct_split_off_ : Value}
    {f_root_count_ : Addr} {od_root_count_ an_root_count_ : Option Addr} {sl_root_count_ : Array (Option Value)} {oc_root_count_ kV_root_count_ dc_root_count_ pm_root_count_ cd_root_count_ ct_root_count_ : Value}
    {dK_roots : Addr}
    {f_roots : Addr} {od_roots an_roots : Option Addr} {sl_roots : Array (Option Value)} {oc_roots dc_roots pm_roots cd_roots ct_roots : Value}
    {f_law_value : Addr} {od_law_value an_law_value : Option Addr} {sl_law_value : Array (Option Value)} {oc_law_value kV_law_value dc_law_value pm_law_value cd_law_value ct_law_value : Value}
    {f_law_less : Addr} {od_law_less an_law_less : Option Addr} {sl_law_less : Array (Option Value)} {oc_law_less kV_law_less dc_law_less pm_law_less cd_law_less ct_law_less : Value}
    {f_law_due : Addr} {od_law_due an_law_due : Option Addr} {sl_law_due : Array (Option Value)} {oc_law_due kV_law_due dc_law_due pm_law_due cd_law_due ct_law_due : Value}
    {f_law_told : Addr} {od_law_told an_law_told : Option Addr} {sl_law_told : Array (Option Value)} {oc_law_told kV_law_told dc_law_told pm_law_told cd_law_told ct_law_told : Value}
    {f_law : Addr} {od_law an_law : Option Addr} {sl_law : Array (Option Value)} {oc_law kV_law dc_law pm_law cd_law ct_law : Value}
    {CB : Addr}
    {CN : Addr}
    {CP : Addr}
    {tm_MOST_PARTS : Tok}
    {tm_MOST_ROOT : Tok}
    {CE : Addr}
    {uk_roots : Tok}
    (a_law_plain : PySem.W.nsIn K mainGlobals "_law_plain" = some (some (.ref f_law_plain))) (l_law_plain : K.lookup f_law_plain = some ⟨oc_law_plain, od_law_plain, .func (PySem.W.fnOf "_law_plain" "_law_plain" (defArgs s_law_plain) (defBody s_law_plain) (defScope s_law_plain) .none kV_law_plain dc_law_plain pm_law_plain an_law_plain cd_law_plain ct_law_plain), sl_law_plain⟩) (c_law_plain : PySem.W.codeIn K cd_law_plain "_law_plain" = true) (k_law_plain : PySem.W.keepIn K (.ref f_law_plain) = true)
    (a_law_next : PySem.W.nsIn K mainGlobals "_law_next" = some (some (.ref f_law_next))) (l_law_next : K.lookup f_law_next = some ⟨oc_law_next, od_law_next, .func (PySem.W.fnOf "_law_next" "_law_next" (defArgs s_law_next) (defBody s_law_next) (defScope s_law_next) .none kV_law_next dc_law_next pm_law_next an_law_next cd_law_next ct_law_next), sl_law_next⟩) (c_law_next : PySem.W.codeIn K cd_law_next "_law_next" = true) (k_law_next : PySem.W.keepIn K (.ref f_law_next) = true)
    (a_law_draws : PySem.W.nsIn K mainGlobals "_law_draws" = some (some (.ref f_law_draws))) (l_law_draws : K.lookup f_law_draws = some ⟨oc_law_draws, od_law_draws, .func (PySem.W.fnOf "_law_draws" "_law_draws" (defArgs s_law_draws) (defBody s_law_draws) (defScope s_law_draws) .none kV_law_draws dc_law_draws pm_law_draws an_law_draws cd_law_draws ct_law_draws), sl_law_draws⟩) (c_law_draws : PySem.W.codeIn K cd_law_draws "_law_draws" = true) (k_law_draws : PySem.W.keepIn K (.ref f_law_draws) = true)
    (a_is_poly : PySem.W.nsIn K mainGlobals "is_poly" = some (some (.ref f_is_poly))) (l_is_poly : K.lookup f_is_poly = some ⟨oc_is_poly, od_is_poly, .func (PySem.W.fnOf "is_poly" "is_poly" (defArgs s_is_poly) (defBody s_is_poly) (defScope s_is_poly) .none kV_is_poly dc_is_poly pm_is_poly an_is_poly cd_is_poly ct_is_poly), sl_is_poly⟩) (c_is_poly : PySem.W.codeIn K cd_is_poly "is_poly" = true) (k_is_poly : PySem.W.keepIn K (.ref f_is_poly) = true)
    (a_check_poly : PySem.W.nsIn K mainGlobals "check_poly" = some (some (.ref f_check_poly))) (l_check_poly : K.lookup f_check_poly = some ⟨oc_check_poly, od_check_poly, .func (PySem.W.fnOf "check_poly" "check_poly" (defArgs s_check_poly) (defBody s_check_poly) (defScope s_check_poly) .none kV_check_poly dc_check_poly pm_check_poly an_check_poly cd_check_poly ct_check_poly), sl_check_poly⟩) (c_check_poly : PySem.W.codeIn K cd_check_poly "check_poly" = true) (k_check_poly : PySem.W.keepIn K (.ref f_check_poly) = true)
    (a_law_cut : PySem.W.nsIn K mainGlobals "_law_cut" = some (some (.ref f_law_cut))) (l_law_cut : K.lookup f_law_cut = some ⟨oc_law_cut, od_law_cut, .func (PySem.W.fnOf "_law_cut" "_law_cut" (defArgs s_law_cut) (defBody s_law_cut) (defScope s_law_cut) .none kV_law_cut dc_law_cut pm_law_cut an_law_cut cd_law_cut ct_law_cut), sl_law_cut⟩) (c_law_cut : PySem.W.codeIn K cd_law_cut "_law_cut" = true) (k_law_cut : PySem.W.keepIn K (.ref f_law_cut) = true)
    (a_law_poly : PySem.W.nsIn K mainGlobals "_law_poly" = some (some (.ref f_law_poly))) (l_law_poly : K.lookup f_law_poly = some ⟨oc_law_poly, od_law_poly, .func (PySem.W.fnOf "_law_poly" "_law_poly" (defArgs s_law_poly) (defBody s_law_poly) (defScope s_law_poly) .none kV_law_poly dc_law_poly pm_law_poly an_law_poly cd_law_poly ct_law_poly), sl_law_poly⟩) (c_law_poly : PySem.W.codeIn K cd_law_poly "_law_poly" = true) (k_law_poly : PySem.W.keepIn K (.ref f_law_poly) = true)
    (a_law_times : PySem.W.nsIn K mainGlobals "_law_times" = some (some (.ref f_law_times))) (l_law_times : K.lookup f_law_times = some ⟨oc_law_times, od_law_times, .func (PySem.W.fnOf "_law_times" "_law_times" (defArgs s_law_times) (defBody s_law_times) (defScope s_law_times) .none kV_law_times dc_law_times pm_law_times an_law_times cd_law_times ct_law_times), sl_law_times⟩) (c_law_times : PySem.W.codeIn K cd_law_times "_law_times" = true) (k_law_times : PySem.W.keepIn K (.ref f_law_times) = true)
    (a_split_off_ : PySem.W.nsIn K mainGlobals "_split_off" = some (some (.ref f_split_off_))) (l_split_off_ : K.lookup f_split_off_ = some ⟨oc_split_off_, od_split_off_, .func (PySem.W.fnOf "_split_off" "_split_off" (defArgs s_split_off_) (defBody s_split_off_) (defScope s_split_off_) .none kV_split_off_ dc_split_off_ pm_split_off_ an_split_off_ cd_split_off_ ct_split_off_), sl_split_off_⟩) (c_split_off_ : PySem.W.codeIn K cd_split_off_ "_split_off" = true) (k_split_off_ : PySem.W.keepIn K (.ref f_split_off_) = true)
    (a_root_count_ : PySem.W.nsIn K mainGlobals "_root_count" = some (some (.ref f_root_count_))) (l_root_count_ : K.lookup f_root_count_ = some ⟨oc_root_count_, od_root_count_, .func (PySem.W.fnOf "_root_count" "_root_count" (defArgs s_root_count_) (defBody s_root_count_) (defScope s_root_count_) .none kV_root_count_ dc_root_count_ pm_root_count_ an_root_count_ cd_root_count_ ct_root_count_), sl_root_count_⟩) (c_root_count_ : PySem.W.codeIn K cd_root_count_ "_root_count" = true) (k_root_count_ : PySem.W.keepIn K (.ref f_root_count_) = true)
    (a_roots : PySem.W.nsIn K mainGlobals "roots" = some (some (.ref f_roots))) (l_roots : K.lookup f_roots = some ⟨oc_roots, od_roots, .func (PySem.W.fnOf "roots" "roots" (defArgs s_roots) (defBody s_roots) (defScope s_roots) .none (.ref dK_roots) dc_roots pm_roots an_roots cd_roots ct_roots), sl_roots⟩) (c_roots : PySem.W.codeIn K cd_roots "roots" = true) (k_roots : PySem.W.keepIn K (.ref f_roots) = true)
    (a_law_value : PySem.W.nsIn K mainGlobals "_law_value" = some (some (.ref f_law_value))) (l_law_value : K.lookup f_law_value = some ⟨oc_law_value, od_law_value, .func (PySem.W.fnOf "_law_value" "_law_value" (defArgs s_law_value) (defBody s_law_value) (defScope s_law_value) .none kV_law_value dc_law_value pm_law_value an_law_value cd_law_value ct_law_value), sl_law_value⟩) (c_law_value : PySem.W.codeIn K cd_law_value "_law_value" = true) (k_law_value : PySem.W.keepIn K (.ref f_law_value) = true)
    (a_law_less : PySem.W.nsIn K mainGlobals "_law_less" = some (some (.ref f_law_less))) (l_law_less : K.lookup f_law_less = some ⟨oc_law_less, od_law_less, .func (PySem.W.fnOf "_law_less" "_law_less" (defArgs s_law_less) (defBody s_law_less) (defScope s_law_less) .none kV_law_less dc_law_less pm_law_less an_law_less cd_law_less ct_law_less), sl_law_less⟩) (c_law_less : PySem.W.codeIn K cd_law_less "_law_less" = true) (k_law_less : PySem.W.keepIn K (.ref f_law_less) = true)
    (a_law_due : PySem.W.nsIn K mainGlobals "_law_due" = some (some (.ref f_law_due))) (l_law_due : K.lookup f_law_due = some ⟨oc_law_due, od_law_due, .func (PySem.W.fnOf "_law_due" "_law_due" (defArgs s_law_due) (defBody s_law_due) (defScope s_law_due) .none kV_law_due dc_law_due pm_law_due an_law_due cd_law_due ct_law_due), sl_law_due⟩) (c_law_due : PySem.W.codeIn K cd_law_due "_law_due" = true) (k_law_due : PySem.W.keepIn K (.ref f_law_due) = true)
    (a_law_told : PySem.W.nsIn K mainGlobals "_law_told" = some (some (.ref f_law_told))) (l_law_told : K.lookup f_law_told = some ⟨oc_law_told, od_law_told, .func (PySem.W.fnOf "_law_told" "_law_told" (defArgs s_law_told) (defBody s_law_told) (defScope s_law_told) .none kV_law_told dc_law_told pm_law_told an_law_told cd_law_told ct_law_told), sl_law_told⟩) (c_law_told : PySem.W.codeIn K cd_law_told "_law_told" = true) (k_law_told : PySem.W.keepIn K (.ref f_law_told) = true)
    (a_law : PySem.W.nsIn K mainGlobals "law" = some (some (.ref f_law))) (l_law : K.lookup f_law = some ⟨oc_law, od_law, .func (PySem.W.fnOf "law" "law" (defArgs s_law) (defBody s_law) (defScope s_law) .none kV_law dc_law pm_law an_law cd_law ct_law), sl_law⟩) (c_law : PySem.W.codeIn K cd_law "law" = true) (k_law : PySem.W.keepIn K (.ref f_law) = true)
    (zn_int : PySem.W.nsIn K mainGlobals "int" = some none)
    (zn_range : PySem.W.nsIn K mainGlobals "range" = some none)
    (zn_len : PySem.W.nsIn K mainGlobals "len" = some none)
    (zn_tuple : PySem.W.nsIn K mainGlobals "tuple" = some none)
    (zn_reversed : PySem.W.nsIn K mainGlobals "reversed" = some none)
    (zn_abs : PySem.W.nsIn K mainGlobals "abs" = some none)
    (zn_repr : PySem.W.nsIn K mainGlobals "repr" = some none)
    (zn_isinstance : PySem.W.nsIn K mainGlobals "isinstance" = some none)
    (n_BadNumber : PySem.W.nsIn K mainGlobals "BadNumber" = some (some (.ref CB)))
    (x_BadNumber : PySem.W.excIn K CB [.type "ValueError", .type "Exception", .type "BaseException", .type "object"] "ValueError.__new__" = true)
    (kc_BadNumber : PySem.W.keepIn K (.ref CB) = true)
    (bc_BadNumber : PySem.W.subIn K (.ref CB) (.type "BaseException") = some true)
    (tc_BadNumber : PySem.W.typeIn K (.ref CB) = some (.type "type"))
    (n_NoAnswer : PySem.W.nsIn K mainGlobals "NoAnswer" = some (some (.ref CN)))
    (x_NoAnswer : PySem.W.excIn K CN [.type "ValueError", .type "Exception", .type "BaseException", .type "object"] "ValueError.__new__" = true)
    (kc_NoAnswer : PySem.W.keepIn K (.ref CN) = true)
    (bc_NoAnswer : PySem.W.subIn K (.ref CN) (.type "BaseException") = some true)
    (tc_NoAnswer : PySem.W.typeIn K (.ref CN) = some (.type "type"))
    (n_NotPoly : PySem.W.nsIn K mainGlobals "NotPoly" = some (some (.ref CP)))
    (x_NotPoly : PySem.W.excIn K CP [.type "ValueError", .type "Exception", .type "BaseException", .type "object"] "ValueError.__new__" = true)
    (kc_NotPoly : PySem.W.keepIn K (.ref CP) = true)
    (bc_NotPoly : PySem.W.subIn K (.ref CP) (.type "BaseException") = some true)
    (tc_NotPoly : PySem.W.typeIn K (.ref CP) = some (.type "type"))
    (n_MOST_PARTS : PySem.W.nsIn K mainGlobals "MOST_PARTS" = some (some (.int 200 tm_MOST_PARTS)))
    (n_MOST_ROOT : PySem.W.nsIn K mainGlobals "MOST_ROOT" = some (some (.int 1000 tm_MOST_ROOT)))
    (n_WorthError : PySem.W.nsIn K mainGlobals "WorthError" = some (some (.ref CE)))
    (ebc : PySem.W.subIn K (.ref CE) (.type "BaseException") = some true)
    (ehd : PySem.W.hasDictIn K CE = true)
    (ety : PySem.W.typeIn K (.ref CE) = some (.type "type"))
    (hn_cls : PySem.W.specialIn K (.builtin "object.__class__") "__get__" = some (some (.builtin "getset_descriptor.__get__")))
    (ht_cls : PySem.W.takesIn K (.builtin "object.__class__") = some true)
    (hg_BadNumber : PySem.W.findIn K (.ref CB) "__getattribute__" = some (some (.builtin "BaseException.__getattribute__")))
    (hk_BadNumber : PySem.W.findIn K (.ref CB) "__getattr__" = some none)
    (hd_BadNumber : PySem.W.hasDictIn K CB = true)
    (ha_BadNumber : PySem.W.findIn K (.ref CB) "__class__" = some (some (.builtin "object.__class__")))
    (hm_BadNumber : PySem.W.mroIn K CB (.type "object") = some true)
    (sE_b : PySem.W.subIn K (.ref CB) (.ref CE) = some true)
    (hg_NoAnswer : PySem.W.findIn K (.ref CN) "__getattribute__" = some (some (.builtin "BaseException.__getattribute__")))
    (hk_NoAnswer : PySem.W.findIn K (.ref CN) "__getattr__" = some none)
    (hd_NoAnswer : PySem.W.hasDictIn K CN = true)
    (ha_NoAnswer : PySem.W.findIn K (.ref CN) "__class__" = some (some (.builtin "object.__class__")))
    (hm_NoAnswer : PySem.W.mroIn K CN (.type "object") = some true)
    (sE_n : PySem.W.subIn K (.ref CN) (.ref CE) = some true)
    (hg_NotPoly : PySem.W.findIn K (.ref CP) "__getattribute__" = some (some (.builtin "BaseException.__getattribute__")))
    (hk_NotPoly : PySem.W.findIn K (.ref CP) "__getattr__" = some none)
    (hd_NotPoly : PySem.W.hasDictIn K CP = true)
    (ha_NotPoly : PySem.W.findIn K (.ref CP) "__class__" = some (some (.builtin "object.__class__")))
    (hm_NotPoly : PySem.W.mroIn K CP (.type "object") = some true)
    (sE_p : PySem.W.subIn K (.ref CP) (.ref CE) = some true)
    (t_bb : PySem.W.kitOne K (.ref CB) (.ref CB) = some true)
    (t_bn : PySem.W.kitOne K (.ref CB) (.ref CN) = some false)
    (t_bp : PySem.W.kitOne K (.ref CB) (.ref CP) = some false)
    (t_nb : PySem.W.kitOne K (.ref CN) (.ref CB) = some false)
    (t_nn : PySem.W.kitOne K (.ref CN) (.ref CN) = some true)
    (t_np : PySem.W.kitOne K (.ref CN) (.ref CP) = some false)
    (t_pb : PySem.W.kitOne K (.ref CP) (.ref CB) = some false)
    (t_pn : PySem.W.kitOne K (.ref CP) (.ref CN) = some false)
    (t_pp : PySem.W.kitOne K (.ref CP) (.ref CP) = some true)
    (kd_roots : PySem.W.nsIn K dK_roots "most" = some (some (.int 1000 uk_roots)))
    : ∃ fd : FuncData, (∀ (s : Shared) (v : Value), BindsTo s fd ⟨[v], []⟩ [("script", v)]) ∧ ∀ base : Heap, K.In base → base.Ns mainGlobals mg → FnG P w K mg base 5 fa fd ["script"] (spLaw K) := by
  have e := hfa.symm.trans (PySem.W.mg_of X G a_law)
  cases e
  have F_law_plain := fun_mk (st := s_law_plain) l_law_plain c_law_plain k_law_plain
  have g_law_plain := PySem.W.mg_of X G a_law_plain
  have b_law_plain := F_law_plain.binds (ps := ["cell"]) fun _ _ _ _ _ _ us hl => match us, hl with | [_], _ => rfl
  have F_law_next := fun_mk (st := s_law_next) l_law_next c_law_next k_law_next
  have g_law_next := PySem.W.mg_of X G a_law_next
  have b_law_next := F_law_next.binds (ps := ["draws"]) fun _ _ _ _ _ _ us hl => match us, hl with | [_], _ => rfl
  have F_law_draws := fun_mk (st := s_law_draws) l_law_draws c_law_draws k_law_draws
  have g_law_draws := PySem.W.mg_of X G a_law_draws
  have b_law_draws := F_law_draws.binds (ps := ["script"]) fun _ _ _ _ _ _ us hl => match us, hl with | [_], _ => rfl
  have F_is_poly := fun_mk (st := s_is_poly) l_is_poly c_is_poly k_is_poly
  have g_is_poly := PySem.W.mg_of X G a_is_poly
  have b_is_poly := F_is_poly.binds (ps := ["poly"]) fun _ _ _ _ _ _ us hl => match us, hl with | [_], _ => rfl
  have F_check_poly := fun_mk (st := s_check_poly) l_check_poly c_check_poly k_check_poly
  have g_check_poly := PySem.W.mg_of X G a_check_poly
  have b_check_poly := F_check_poly.binds (ps := ["poly"]) fun _ _ _ _ _ _ us hl => match us, hl with | [_], _ => rfl
  have F_law_cut := fun_mk (st := s_law_cut) l_law_cut c_law_cut k_law_cut
  have g_law_cut := PySem.W.mg_of X G a_law_cut
  have b_law_cut := F_law_cut.binds (ps := ["parts"]) fun _ _ _ _ _ _ us hl => match us, hl with | [_], _ => rfl
  have F_law_poly := fun_mk (st := s_law_poly) l_law_poly c_law_poly k_law_poly
  have g_law_poly := PySem.W.mg_of X G a_law_poly
  have b_law_poly := F_law_poly.binds (ps := ["draws", "most"]) fun _ _ _ _ _ _ us hl => match us, hl with | [_, _], _ => rfl
  have F_law_times := fun_mk (st := s_law_times) l_law_times c_law_times k_law_times
  have g_law_times := PySem.W.mg_of X G a_law_times
  have b_law_times := F_law_times.binds (ps := ["one", "other"]) fun _ _ _ _ _ _ us hl => match us, hl with | [_, _], _ => rfl
  have F_split_off_ := fun_mk (st := s_split_off_) l_split_off_ c_split_off_ k_split_off_
  have g_split_off_ := PySem.W.mg_of X G a_split_off_
  have b_split_off_ := F_split_off_.binds (ps := ["parts", "x"]) fun _ _ _ _ _ _ us hl => match us, hl with | [_, _], _ => rfl
  have F_root_count_ := fun_mk (st := s_root_count_) l_root_count_ c_root_count_ k_root_count_
  have g_root_count_ := PySem.W.mg_of X G a_root_count_
  have b_root_count_ := F_root_count_.binds (ps := ["poly", "x"]) fun _ _ _ _ _ _ us hl => match us, hl with | [_, _], _ => rfl
  have F_roots : FunA K "roots" "roots" s_roots f_roots _ := ⟨⟨_, _, _, _, _, _, _, _, _, _, rfl, l_roots, c_roots⟩, k_roots⟩
  have g_roots := PySem.W.mg_of X G a_roots
  have F_law_value := fun_mk (st := s_law_value) l_law_value c_law_value k_law_value
  have g_law_value := PySem.W.mg_of X G a_law_value
  have b_law_value := F_law_value.binds (ps := ["poly", "x"]) fun _ _ _ _ _ _ us hl => match us, hl with | [_, _], _ => rfl
  have F_law_less := fun_mk (st := s_law_less) l_law_less c_law_less k_law_less
  have g_law_less := PySem.W.mg_of X G a_law_less
  have b_law_less := F_law_less.binds (ps := ["poly", "x"]) fun _ _ _ _ _ _ us hl => match us, hl with | [_, _], _ => rfl
  have F_law_due := fun_mk (st := s_law_due) l_law_due c_law_due k_law_due
  have g_law_due := PySem.W.mg_of X G a_law_due
  have b_law_due := F_law_due.binds (ps := ["poly", "most"]) fun _ _ _ _ _ _ us hl => match us, hl with | [_, _], _ => rfl
  have F_law_told := fun_mk (st := s_law_told) l_law_told c_law_told k_law_told
  have g_law_told := PySem.W.mg_of X G a_law_told
  have b_law_told := F_law_told.binds (ps := ["poly", "most"]) fun _ _ _ _ _ _ us hl => match us, hl with | [_, _], _ => rfl
  have F_law := fun_mk (st := s_law) l_law c_law k_law
  have g_law := PySem.W.mg_of X G a_law
  have b_law := F_law.binds (ps := ["script"]) fun _ _ _ _ _ _ us hl => match us, hl with | [_], _ => rfl
  have z_int := PySem.W.mg_none_of X G zn_int
  have z_range := PySem.W.mg_none_of X G zn_range
  have z_len := PySem.W.mg_none_of X G zn_len
  have z_tuple := PySem.W.mg_none_of X G zn_tuple
  have z_reversed := PySem.W.mg_none_of X G zn_reversed
  have z_abs := PySem.W.mg_none_of X G zn_abs
  have z_repr := PySem.W.mg_none_of X G zn_repr
  have z_isinstance := PySem.W.mg_none_of X G zn_isinstance
  have E_BadNumber : ErrC K mg "BadNumber" CB := ⟨PySem.W.mg_of X G n_BadNumber, x_BadNumber, kc_BadNumber, bc_BadNumber, tc_BadNumber⟩
  have E_NoAnswer : ErrC K mg "NoAnswer" CN := ⟨PySem.W.mg_of X G n_NoAnswer, x_NoAnswer, kc_NoAnswer, bc_NoAnswer, tc_NoAnswer⟩
  have E_NotPoly : ErrC K mg "NotPoly" CP := ⟨PySem.W.mg_of X G n_NotPoly, x_NotPoly, kc_NotPoly, bc_NotPoly, tc_NotPoly⟩
  have m_MOST_PARTS := PySem.W.mg_of X G n_MOST_PARTS
  have m_MOST_ROOT := PySem.W.mg_of X G n_MOST_ROOT
  have I_BadNumber : ExcC K CB := ⟨hg_BadNumber, hk_BadNumber, bc_BadNumber, hd_BadNumber, ha_BadNumber, hn_cls, ht_cls, hm_BadNumber⟩
  have I_NoAnswer : ExcC K CN := ⟨hg_NoAnswer, hk_NoAnswer, bc_NoAnswer, hd_NoAnswer, ha_NoAnswer, hn_cls, ht_cls, hm_NoAnswer⟩
  have I_NotPoly : ExcC K CP := ⟨hg_NotPoly, hk_NotPoly, bc_NotPoly, hd_NotPoly, ha_NotPoly, hn_cls, ht_cls, hm_NotPoly⟩
  have T_told : ErrT K mg CE CB CN CP := ⟨PySem.W.mg_of X G n_WorthError, ebc, ehd, ety, PySem.W.mg_of X G n_BadNumber, I_BadNumber, sE_b, PySem.W.mg_of X G n_NoAnswer, I_NoAnswer, sE_n, PySem.W.mg_of X G n_NotPoly, I_NotPoly, sE_p, t_bb, t_bn, t_bp, t_nb, t_nn, t_np, t_pb, t_pn, t_pp⟩
  obtain ⟨ur, b_roots1⟩ : ∃ t, Binds K (PySem.W.fnOf "roots" "roots" (defArgs s_roots) (defBody s_roots) (defScope s_roots) .none (.ref dK_roots) dc_roots pm_roots an_roots cd_roots ct_roots) ["poly", "most"] [.int 1000 t] := by
        obtain ⟨ds, hv, hb⟩ := FunD.binds0 (K := K) (kws := [("most", .int 1000)]) (ps := ["poly", "most"]) ⟨⟨_, _, _, _, _, _, _, _, _, _, rfl, l_roots, c_roots, .inl ⟨rfl, rfl⟩, .inr ⟨dK_roots, rfl, fun q hq => by rw [List.mem_singleton.mp hq]; exact ⟨_, kd_roots, ⟨_, rfl⟩⟩⟩⟩, k_roots⟩ 1 (fun z => nomatch z) rfl
          (fun D doc pm an cdv ct us ks hl hl2 => match us, ks, hl, hl2 with | [_], [_], _, _ => ⟨_, _, _, _, _, _, rfl, rfl, rfl⟩)
        cases hv with
        | cons r1 r2 =>
          cases r2
          obtain ⟨t, rfl⟩ := r1
          exact ⟨t, hb⟩
  have bK_roots : KBn K (PySem.W.fnOf "roots" "roots" (defArgs s_roots) (defBody s_roots) (defScope s_roots) .none (.ref dK_roots) dc_roots pm_roots an_roots cd_roots ct_roots) ["poly", "most"] 1 ["most"] (fun us ws => us ++ ws) (fun vs zs => vs ++ zs) :=
    ⟨fun s us ws X l1 l2 => match us, ws, l1, l2 with | [_], [_], _, _ => .of_eq rfl, fun r1 r2 => r1.append r2⟩
  refine ⟨PySem.W.fnOf "law" "law" (defArgs s_law) (defBody s_law) (defScope s_law) .none kV_law dc_law pm_law an_law cd_law ct_law, fun s v => .of_eq rfl, fun base _ _ => ?_⟩
  have G_law_plain := ok_plain (P := P) (w := w) (mg := mg) (base := base) (F := F_law_plain)
  have G_law_next := ok_next (P := P) (w := w) (mg := mg) (base := base) (F := F_law_next)
  have G_law_draws := ok_draws (P := P) (w := w) (mg := mg) (base := base) (F := F_law_draws) (z_range := z_range) (z_int := z_int) (G_law_plain := G_law_plain) (g_law_plain := g_law_plain) (k_law_plain := k_law_plain) (b_law_plain := b_law_plain)
  have G_is_poly := ok_is_poly (P := P) (w := w) (mg := mg) (base := base) (F := F_is_poly) (z_len := z_len) (m_MOST_PARTS := m_MOST_PARTS)
  have G_check_poly := ok_check_poly (P := P) (w := w) (mg := mg) (base := base) (F := F_check_poly) (T := E_NotPoly) (G_is_poly := G_is_poly) (g_is_poly := g_is_poly) (k_is_poly := k_is_poly) (b_is_poly := b_is_poly)
  have G_law_cut := ok_law_cut (P := P) (w := w) (mg := mg) (base := base) (F := F_law_cut) (z_len := z_len) (z_tuple := z_tuple) (z_range := z_range)
  have G_law_poly := ok_law_poly (P := P) (w := w) (mg := mg) (base := base) (F := F_law_poly) (z_int := z_int) (z_range := z_range) (G_law_next := G_law_next) (g_law_next := g_law_next) (k_law_next := k_law_next) (b_law_next := b_law_next) (G_law_cut := G_law_cut) (g_law_cut := g_law_cut) (k_law_cut := k_law_cut) (b_law_cut := b_law_cut)
  have G_law_times := ok_law_times (P := P) (w := w) (mg := mg) (base := base) (F := F_law_times) (z_len := z_len) (z_range := z_range) (G_law_cut := G_law_cut) (g_law_cut := g_law_cut) (k_law_cut := k_law_cut) (b_law_cut := b_law_cut)
  have G_split_off_ := ok_split_off_ (P := P) (w := w) (mg := mg) (base := base) (F := F_split_off_) (z_reversed := z_reversed)
  have G_root_count_ := ok_root_count_ (P := P) (w := w) (mg := mg) (base := base) (F := F_root_count_) (G_split_off_ := G_split_off_) (g_split_off_ := g_split_off_) (k_split_off_ := k_split_off_) (b_split_off_ := b_split_off_)
  have G_roots := ok_roots (P := P) (w := w) (mg := mg) (base := base) (F := F_roots) (z_range := z_range) (m_MOST_ROOT := m_MOST_ROOT) (T := E_BadNumber) (T2 := E_NoAnswer) (G_check_poly := G_check_poly) (g_check_poly := g_check_poly) (k_check_poly := k_check_poly) (b_check_poly := b_check_poly) (G_root_count_ := G_root_count_) (g_root_count_ := g_root_count_) (k_root_count_ := k_root_count_) (b_root_count_ := b_root_count_)
  have G_law_value := ok_law_value (P := P) (w := w) (mg := mg) (base := base) (F := F_law_value)
  have G_law_less := ok_law_less (P := P) (w := w) (mg := mg) (base := base) (F := F_law_less) (z_len := z_len) (z_range := z_range) (z_tuple := z_tuple)
  have G_law_due := ok_law_due (P := P) (w := w) (mg := mg) (base := base) (F := F_law_due) (z_len := z_len) (z_range := z_range) (G_law_value := G_law_value) (g_law_value := g_law_value) (k_law_value := k_law_value) (b_law_value := b_law_value) (G_law_less := G_law_less) (g_law_less := g_law_less) (k_law_less := k_law_less) (b_law_less := b_law_less)
  have G_law_told := ok_told (P := P) (w := w) (mg := mg) (base := base) (F := F_law_told) (T := T_told) (z_isinstance := z_isinstance) (G_roots := G_roots) (g_roots := g_roots) (k_roots := k_roots) (bK_roots := bK_roots)
  exact ok_law (P := P) (w := w) (mg := mg) (base := base) (F := F_law) (z_repr := z_repr) (z_int := z_int) (z_range := z_range) (z_abs := z_abs) (G_law_draws := G_law_draws) (g_law_draws := g_law_draws) (k_law_draws := k_law_draws) (b_law_draws := b_law_draws) (G_law_next := G_law_next) (g_law_next := g_law_next) (k_law_next := k_law_next) (b_law_next := b_law_next) (G_law_poly := G_law_poly) (g_law_poly := g_law_poly) (k_law_poly := k_law_poly) (b_law_poly := b_law_poly) (G_law_times := G_law_times) (g_law_times := g_law_times) (k_law_times := k_law_times) (b_law_times := b_law_times) (G_law_told := G_law_told) (g_law_told := g_law_told) (k_law_told := k_law_told) (b_law_told := b_law_told) (G_law_due := G_law_due) (g_law_due := g_law_due) (k_law_due := k_law_due) (b_law_due := b_law_due) (G_roots := G_roots) (g_roots := g_roots) (k_roots := k_roots) (b_roots1 := b_roots1)
end T
open PySem PySem.W PyProof.Rows
set_option maxHeartbeats 0 in
theorem PySem.Challenge.cw_threadworth_k06_roots_holds : PySem.Challenge.rw_threadworth_k06_roots.Holds := by
  w_on; o_law; k_head; (case hw => w_witness2)
  k_fill
  refine L2.walk_ofG (l := PySem.Challenge.rw_threadworth_k06_roots) (n := 63) (k := 5) (x := "script") (sp := fun w => T.spLaw _) rfl (by decide) rfl ⟨rfl, by decide, by decide⟩ (fun w h Y => PySem.W.kIn_of Y) ?F (fun _ _ a ns hl hS => ⟨a, ns, rfl, hS, hl, fun _ => rfl⟩)
  case F =>
    intro w mg fa h KX G hmg
    refine' T.all_mk KX G hmg ?a_law_plain ?l_law_plain ?c_law_plain ?k_law_plain ?a_law_next ?l_law_next ?c_law_next ?k_law_next ?a_law_draws ?l_law_draws ?c_law_draws ?k_law_draws ?a_is_poly ?l_is_poly ?c_is_poly ?k_is_poly ?a_check_poly ?l_check_poly ?c_check_poly ?k_check_poly ?a_law_cut ?l_law_cut ?c_law_cut ?k_law_cut ?a_law_poly ?l_law_poly ?c_law_poly ?k_law_poly ?a_law_times ?l_law_times ?c_law_times ?k_law_times ?a_split_off_ ?l_split_off_ ?c_split_off_ ?k_split_off_ ?a_root_count_ ?l_root_count_ ?c_root_count_ ?k_root_count_ ?a_roots ?l_roots ?c_roots ?k_roots ?a_law_value ?l_law_value ?c_law_value ?k_law_value ?a_law_less ?l_law_less ?c_law_less ?k_law_less ?a_law_due ?l_law_due ?c_law_due ?k_law_due ?a_law_told ?l_law_told ?c_law_told ?k_law_told ?a_law ?l_law ?c_law ?k_law ?zn_int ?zn_range ?zn_len ?zn_tuple ?zn_reversed ?zn_abs ?zn_repr ?zn_isinstance ?n_BadNumber ?x_BadNumber ?kc_BadNumber ?bc_BadNumber ?tc_BadNumber ?n_NoAnswer ?x_NoAnswer ?kc_NoAnswer ?bc_NoAnswer ?tc_NoAnswer ?n_NotPoly ?x_NotPoly ?kc_NotPoly ?bc_NotPoly ?tc_NotPoly ?n_MOST_PARTS ?n_MOST_ROOT ?n_WorthError ?ebc ?ehd ?ety ?hn_cls ?ht_cls ?hg_BadNumber ?hk_BadNumber ?hd_BadNumber ?ha_BadNumber ?hm_BadNumber ?sE_b ?hg_NoAnswer ?hk_NoAnswer ?hd_NoAnswer ?ha_NoAnswer ?hm_NoAnswer ?sE_n ?hg_NotPoly ?hk_NotPoly ?hd_NotPoly ?ha_NotPoly ?hm_NotPoly ?sE_p ?t_bb ?t_bn ?t_bp ?t_nb ?t_nn ?t_np ?t_pb ?t_pn ?t_pp ?kd_roots
    (case a_law_plain => k_is); (case l_law_plain => k_is); (case c_law_plain => k_is); (case k_law_plain => k_is); (case a_law_next => k_is); (case l_law_next => k_is); (case c_law_next => k_is); (case k_law_next => k_is)
    (case a_law_draws => k_is); (case l_law_draws => k_is); (case c_law_draws => k_is); (case k_law_draws => k_is); (case a_is_poly => k_is); (case l_is_poly => k_is); (case c_is_poly => k_is); (case k_is_poly => k_is)
    (case a_check_poly => k_is); (case l_check_poly => k_is); (case c_check_poly => k_is); (case k_check_poly => k_is); (case a_law_cut => k_is); (case l_law_cut => k_is); (case c_law_cut => k_is); (case k_law_cut => k_is)
    (case a_law_poly => k_is); (case l_law_poly => k_is); (case c_law_poly => k_is); (case k_law_poly => k_is); (case a_law_times => k_is); (case l_law_times => k_is); (case c_law_times => k_is); (case k_law_times => k_is)
    (case a_split_off_ => k_is); (case l_split_off_ => k_is); (case c_split_off_ => k_is); (case k_split_off_ => k_is); (case a_root_count_ => k_is); (case l_root_count_ => k_is); (case c_root_count_ => k_is); (case k_root_count_ => k_is)
    (case a_roots => k_is); (case l_roots => k_is); (case c_roots => k_is); (case k_roots => k_is); (case a_law_value => k_is); (case l_law_value => k_is); (case c_law_value => k_is); (case k_law_value => k_is)
    (case a_law_less => k_is); (case l_law_less => k_is); (case c_law_less => k_is); (case k_law_less => k_is); (case a_law_due => k_is); (case l_law_due => k_is); (case c_law_due => k_is); (case k_law_due => k_is)
    (case a_law_told => k_is); (case l_law_told => k_is); (case c_law_told => k_is); (case k_law_told => k_is); (case a_law => k_is); (case l_law => k_is); (case c_law => k_is); (case k_law => k_is)
    (case zn_int => k_is); (case zn_range => k_is); (case zn_len => k_is); (case zn_tuple => k_is); (case zn_reversed => k_is); (case zn_abs => k_is); (case zn_repr => k_is); (case zn_isinstance => k_is)
    (case n_BadNumber => k_is); (case x_BadNumber => k_exc); (case kc_BadNumber => k_is); (case bc_BadNumber => k_is); (case tc_BadNumber => k_is); (case n_NoAnswer => k_is); (case x_NoAnswer => k_exc); (case kc_NoAnswer => k_is)
    (case bc_NoAnswer => k_is); (case tc_NoAnswer => k_is); (case n_NotPoly => k_is); (case x_NotPoly => k_exc); (case kc_NotPoly => k_is); (case bc_NotPoly => k_is); (case tc_NotPoly => k_is); (case n_MOST_PARTS => k_is)
    (case n_MOST_ROOT => k_is); (case n_WorthError => k_is); (case ebc => k_is); (case ehd => k_is); (case ety => k_is); (case hn_cls => k_is); (case ht_cls => k_is); (case hg_BadNumber => k_is)
    (case hk_BadNumber => k_is); (case hd_BadNumber => k_is); (case ha_BadNumber => k_is); (case hm_BadNumber => k_is); (case sE_b => k_is); (case hg_NoAnswer => k_is); (case hk_NoAnswer => k_is); (case hd_NoAnswer => k_is)
    (case ha_NoAnswer => k_is); (case hm_NoAnswer => k_is); (case sE_n => k_is); (case hg_NotPoly => k_is); (case hk_NotPoly => k_is); (case hd_NotPoly => k_is); (case ha_NotPoly => k_is); (case hm_NotPoly => k_is)
    (case sE_p => k_is); (case t_bb => kit_is); (case t_bn => kit_is); (case t_bp => kit_is); (case t_nb => kit_is); (case t_nn => kit_is); (case t_np => kit_is); (case t_pb => kit_is)
    (case t_pn => kit_is); (case t_pp => kit_is); (case kd_roots => k_is)
