/-
  Lists by name: what an append, a make, a store and a load really do to a list. Conditions: none.
-/
import Derived.Test.YtjjmnoiffpnphaaSxC
import Derived.Deep.AppendSrc
import Derived.Laws.MakeOwn
import Derived.Laws.CopyRow
namespace Go.Proofs.Ytjjmnoiffpnphaa
open Go.RowKit

theorem frozen_setRow {w : World} {g : Nat} {cur : Array Value} {e : TypeId} {fr : Nat × Nat} (hg : w.heap[g]? = some (.cells cur e fr)) (cs : Array Value) (a : Addr) : (w.setRow g cs).frozen? a = w.frozen? a := by
  by_cases h : a.block = g
  · have h1 : (w.setRow g cs).heap[a.block]? = some (.cells cs e fr) := by rw [h]; exact setRow_heap w g cur cs e fr hg
    have h2 : w.heap[a.block]? = some (.cells cur e fr) := by rw [h]; exact hg
    simp [World.frozen?, h1, h2]
  · simp [World.frozen?, setRow_other w g a.block cs h]
theorem Upd.refl (w : World) (row : Option Nat) : Upd w w row := ⟨⟨rfl, rfl, rfl, Nat.le_refl _, fun _ _ _ => rfl⟩, fun _ _ => rfl, Nat.le_refl _⟩
theorem Upd.setRow {w : World} {g : Nat} {cur : Array Value} {e : TypeId} {fr : Nat × Nat} (hg : w.heap[g]? = some (.cells cur e fr)) (cs : Array Value) : Upd w (w.setRow g cs) (some g) :=
  ⟨⟨rfl, rfl, rfl, by simp, fun k _ hk => setRow_other w g k cs fun e => hk (by rw [e])⟩, fun a _ => frozen_setRow hg cs a, Nat.le_refl _⟩
theorem Upd.alloc (w : World) (c : Array Value) (t : TypeId) (row : Option Nat) : Upd w (w.alloc (.cells c t)) row :=
  ⟨⟨rfl, rfl, rfl, by show _ ≤ (w.heap.push _).size; simp, fun k hk _ => heap_alloc_old w _ k hk⟩, fun a _ => frozen?_alloc_cells w c t a, Nat.le_refl _⟩
theorem Upd.allocD (w : World) (c : Array Value) (t : TypeId) (row : Option Nat) : Upd w (w.drew.alloc (.cells c t)) row :=
  ⟨⟨rfl, rfl, rfl, by show _ ≤ (w.heap.push _).size; simp, fun k hk _ => heap_alloc_old w.drew _ k hk⟩, fun a _ => (frozen?_alloc_cells w.drew c t a).trans rfl, Nat.le_succ _⟩
theorem Upd.gr {W w w' : World} {row : Option Nat} (h : Gr W w) (k : Upd w w' row) (hr : ∀ j, row = some j → W.heap.size ≤ j) : Gr W w' :=
  ⟨⟨k.g.os.trans h.1.os, k.g.tape.trans h.1.tape, k.g.output.trans h.1.output, Nat.le_trans h.1.size k.g.size, fun j hj => (k.g.block j (Nat.lt_of_lt_of_le hj h.1.size) fun e => by have := hr j e.symm; omega).trans (h.1.block j hj)⟩, fun a ha => (k.fz a (Nat.lt_of_lt_of_le ha h.1.size)).trans (h.2.1 a ha), Nat.le_trans h.2.2 k.dr⟩

theorem owns_sl {w : World} {base : Nat} {e : TypeId} {es n : Nat} {u : Value} {xs : List Value} (h : w.ownsRow base e es u n xs) : isSl u n := by
  rcases h.2 with ⟨rfl, rfl⟩ | ⟨g, cap, cur, rfl, _⟩
  · exact ⟨none, 0, rfl⟩
  · exact ⟨_, _, rfl⟩
theorem owns_rd {w : World} {base : Nat} {e : TypeId} {es n : Nat} {u : Value} {xs : List Value} (h : w.ownsRow base e es u n xs) : Rd w es u n xs := by
  refine ⟨h.1, ?_⟩
  have hc := fun g hg => h.cells (g := g) hg
  rcases h.2 with ⟨rfl, rfl⟩ | ⟨g, cap, cur, rfl, h3, h4, h5, h6⟩
  · refine ⟨none, 0, rfl, Nat.le_refl _, fun j v hj => ?_⟩
    have : xs = [] := List.eq_nil_of_length_eq_zero (by simpa using h.1)
    rw [this] at hj
    simp at hj
  · refine ⟨_, _, rfl, h5, fun j v hj => ⟨g, 0, rfl, ?_⟩⟩
    have := hc g rfl j v hj
    rw [Addr.add_mid] at this
    exact this

/-- **append, to a list of the run's own.** -/
theorem own_app {P : Program} {w : World} {base : Nat} {t tx ty e : TypeId} {i : TypeInfo} {z : Value} (ht : P.underlying t = some (.slice e)) (hi : P.info? e = some i) (hz : i.zero = some z) (hzs : z.cells.size = i.size)
    {v x : Value} {n m : Nat} {xs news : List Value} (h : w.ownsRow base e i.size v n xs) (hb : base ≤ w.heap.size) (hs : Src P i.size tx x m news w) (hby : i.bytes ≤ 100000000) (hn : n + m ≤ 1000000) :
    ∃ u w' row, (Builtin.append_ #[t, tx] ty #[v, x]).run P w = .ok u w' ∧ isSl u (n + m) ∧ Upd w w' row ∧ (row = none ∨ row = v.ownBlock) ∧ w'.ownsRow base e i.size u (n + m) (xs ++ news) ∧ (∀ k, u.ownBlock = some k → row = some k ∨ w.heap.size ≤ k) := by
  have hlen : (xs ++ news).length = (n + m) * i.size := by rw [List.length_append, h.1, hs.newsLen, Nat.add_mul]
  have hbytes : (n + m) * i.bytes ≤ 140737488355328 := Nat.le_trans (Nat.mul_le_mul hn hby) (by decide)
  have h63 : ((n + m : Nat) : Int) ≤ 9223372036854775807 := by omega
  have grown : ∀ (sCap : Nat), sCap < n + m → Builtin.nextslicecap (n + m) sCap * i.bytes ≤ 281474976710656 ∧
      (w.drew.alloc (.cells ((xs ++ news).toArray ++ Builtin.zeroCells z.cells (grownCap w (n + m) sCap e - (n + m))) e)).ownsRow base e i.size (.slice (some ⟨w.heap.size, 0, none⟩) (n + m) (grownCap w (n + m) sCap e)) (n + m) (xs ++ news) := by
    intro sCap ho
    have hge := grownCap_ge w (n + m) sCap e
    have hcm : grownCap w (n + m) sCap e ≤ maxLen := grownCap_le_maxLen w (n + m) sCap e (by simp only [maxLen]; omega)
    refine ⟨growslice_fits ho hbytes, hlen, .inr ⟨w.heap.size, _, _, rfl, hb, heap_alloc_new w.drew _, hge, hcm, ?_, ?_⟩⟩
    · simp only [Array.size_append, List.size_toArray, size_zeroCells, hzs, hlen, ← Nat.add_mul]
      congr 1
      omega
    · simp only [Array.toList_append, ← hlen]
      exact List.take_left
  rcases h.2 with ⟨rfl, rfl⟩ | ⟨g, cap, cur, rfl, hbg, hg, hnc, hcm, hcs, htake⟩
  · have hx : xs = [] := List.eq_nil_of_length_eq_zero (by simpa using h.1)
    subst hx
    by_cases hm : m = 0
    · subst hm
      have hn0 : news = [] := List.eq_nil_of_length_eq_zero (by simpa using hs.newsLen)
      subst hn0
      refine ⟨.slice none 0 0, w, none, ?_, ⟨_, _, rfl⟩, Upd.refl w none, Or.inl rfl, World.ownsRow_nil w base e i.size, fun k hk => (by cases hk)⟩
      rcases hs.kind with ⟨e', hk⟩ | hk <;> simp [Builtin.append_, run_underlying ht, run_underlying hk, sizeOf, typeInfo, hi, hs.len, hs.cells]
    · have hr := run_append_grow_src (P := P) w t tx ty e i z ht hi hz none 0 0 [] (run_firstCells_none w.drew i.size 0 0 0) x m news hs (by omega) (by simpa using h63) (by simpa using (grown 0 (by omega)).1)
      refine ⟨_, _, none, by simpa using hr, ⟨_, _, rfl⟩, Upd.allocD w _ e none, Or.inl rfl, by simpa using (grown 0 (by omega)).2, fun k hk => ?_⟩
      simp [Value.ownBlock] at hk
      exact Or.inr (Nat.le_of_eq hk)
  · by_cases hroom : n + m ≤ cap
    · have hfit : n * i.size + news.length ≤ cur.size := by rw [hs.newsLen, hcs, ← Nat.add_mul]; exact Nat.mul_le_mul_right _ hroom
      have hst := run_storeCells_at P g (n * i.size) e news 0 cur w hg (by simpa using hfit) hs.one
      simp only [Nat.add_zero] at hst
      refine ⟨.slice (some ⟨g, 0, none⟩) (n + m) cap, w.setRow g (cur.toList.take (n * i.size) ++ news ++ cur.toList.drop (n * i.size + news.length)).toArray, some g, ?_, ⟨_, _, rfl⟩, Upd.setRow hg _, Or.inr rfl, ⟨hlen, .inr ⟨g, cap, _, rfl, hbg, setRow_heap w g cur _ e _ hg, hroom, hcm, ?_, ?_⟩⟩, fun k hk => ?_⟩
      · rcases hs.kind with ⟨e', hk⟩ | hk <;> simp [Builtin.append_, run_underlying ht, run_underlying hk, sizeOf, typeInfo, hi, hs.len, hroom, hs.cells, Addr.add_lit, hst]
      · simp only [List.size_toArray, List.length_append, List.length_take, List.length_drop, Array.length_toList]
        omega
      · rw [htake, ← hlen]
        exact List.take_left
      · simp [Value.ownBlock] at hk
        exact Or.inl (by rw [hk])
    · have holds : ∀ j u, xs[j]? = some u → w.drew.cell? ((⟨g, 0, none⟩ : Addr).add j) = some u := h.cells (g := g) rfl
      have hr := run_append_grow_src (P := P) w t tx ty e i z ht hi hz (some ⟨g, 0, none⟩) n cap xs (run_firstCells_some w.drew i.size n _ n cap xs h.1 holds) x m news hs (by omega) h63 (grown cap (by omega)).1
      refine ⟨_, _, none, hr, ⟨_, _, rfl⟩, Upd.allocD w _ e none, Or.inl rfl, (grown cap (by omega)).2, fun k hk => ?_⟩
      simp [Value.ownBlock] at hk
      exact Or.inr (Nat.le_of_eq hk)

theorem made_rep (z : Array Value) : ∀ (n : Nat), (madeCells z (n * z.size)).toList = repL z.toList n := by
  have key : ∀ n, (List.range (n * z.size)).map (fun j => z[j % z.size]!) = repL z.toList n := by
    intro n
    induction n with
    | zero => simp [repL]
    | succ n ih =>
      rw [Nat.succ_mul, Nat.add_comm, List.range_add, List.map_append, repL]
      congr 1
      · apply List.ext_getElem
        · simp
        · intro j h1 h2
          simp only [List.getElem_map, List.getElem_range]
          have hj : j < z.size := by simpa using h1
          rw [Nat.mod_eq_of_lt hj, getElem!_pos z j hj, Array.getElem_toList]
      · rw [List.map_map, ← ih]
        apply List.map_congr_left
        intro j _
        simp
  intro n
  rw [← key]
  simp [madeCells]
/-- **make, of a list.** -/
theorem own_make {P : Program} {w : World} {base : Nat} {t e : TypeId} {i : TypeInfo} {z : Value} (ht : P.underlying t = some (.slice e)) (hi : P.info? e = some i) (hz : i.zero = some z) (hzs : z.cells.size = i.size)
    (hb : base ≤ w.heap.size) (hby : i.bytes ≤ 100000000) {kl kc : IntKind} {l : Int} (h0 : 0 ≤ l) (hn : l ≤ 1000000) :
    (Instr.makeSlice t (.int kl l) (.int kc l)).run P w = .ok (.slice (some ⟨w.heap.size, 0, none⟩) l.toNat l.toNat) (w.alloc (.cells (madeCells z.cells (l.toNat * i.size)) e)) ∧
      (w.alloc (.cells (madeCells z.cells (l.toNat * i.size)) e)).ownsRow base e i.size (.slice (some ⟨w.heap.size, 0, none⟩) l.toNat l.toNat) l.toNat (repL z.cells.toList l.toNat) := by
  have hm : (i.bytes : Int) * l ≤ 281474976710656 := by
    have : (i.bytes : Int) * l ≤ 100000000 * 1000000 := Int.mul_le_mul (by omega) hn h0 (by omega)
    omega
  refine ⟨run_make w t e i z ht hi hz kl kc l l h0 (Int.le_refl _) hm (by omega), ?_⟩
  · have hl : (repL z.cells.toList l.toNat).length = l.toNat * i.size := by rw [← made_rep, hzs]; simp [size_madeCells]
    refine ⟨hl, .inr ⟨w.heap.size, l.toNat, _, rfl, hb, heap_alloc_new w _, Nat.le_refl _, by simp only [maxLen]; omega, by simp [size_madeCells], ?_⟩⟩
    rw [← made_rep, hzs]
    exact List.take_of_length_le (by simp [size_madeCells])
/-- **append(nil, make([]T, l)...)** -/
theorem own_appZ {P : Program} {w : World} {base : Nat} {t tx ty e : TypeId} {i : TypeInfo} {z : Value} {ki kx : IntKind} (ht : P.underlying t = some (.slice e)) (htx : P.underlying tx = some (.int ki)) (hi : P.info? e = some i) (hz : i.zero = some z) (hzs : z.cells.size = i.size)
    (hb : base ≤ w.heap.size) (hby : i.bytes ≤ 100000000) {l : Int} (h0 : 0 ≤ l) (hn : l ≤ 1000000) :
    ∃ u w', (Builtin.append_ #[t, tx] ty #[.slice none 0 0, .int kx l]).run P w = .ok u w' ∧ isSl u l.toNat ∧ Upd w w' none ∧ w'.ownsRow base e i.size u l.toNat (repL z.cells.toList l.toNat) ∧ (∀ k, u.ownBlock = some k → w.heap.size ≤ k) := by
  have wl : IntKind.i64.wrap l = l := by rw [IntKind.wrap_i64]; omega
  have hm : l * (i.bytes : Int) ≤ 281474976710656 := by
    have : l * (i.bytes : Int) ≤ 1000000 * 100000000 := Int.mul_le_mul hn (by omega) (by omega) (by omega)
    omega
  have n1 : ¬ l < 0 := by omega
  have n2 : ¬ 281474976710656 < l * (i.bytes : Int) := by omega
  by_cases hl : l = 0
  · subst hl
    refine ⟨.slice none 0 0, w, ?_, ⟨_, _, rfl⟩, Upd.refl w none, World.ownsRow_nil w base e i.size, fun k hk => (by cases hk)⟩
    simp [Builtin.append_, run_underlying ht, run_underlying htx, sizeOf, typeInfo, hi, asInt, asIntOf, wl]
  · have hlen : (repL z.cells.toList l.toNat).length = l.toNat * i.size := by rw [← made_rep, hzs]; simp [size_madeCells]
    have hzc : (Builtin.zeroCells z.cells l.toNat).toList = repL z.cells.toList l.toNat := by
      rw [← made_rep]
      simp [Builtin.zeroCells, madeCells]
    have hge := grownCap_ge w l.toNat 0 e
    have hcm : grownCap w l.toNat 0 e ≤ maxLen := grownCap_le_maxLen w l.toNat 0 e (by simp only [maxLen]; omega)
    have hby2 : l.toNat * i.bytes ≤ 140737488355328 := Nat.le_trans (Nat.mul_le_mul (show l.toNat ≤ 1000000 by omega) hby) (by decide)
    have h48 := growslice_fits (need := l.toNat) (old := 0) (bytes := i.bytes) (by omega) hby2
    have h48' : ¬ (281474976710656 < Builtin.nextslicecap l.toNat 0 * i.bytes) := by omega
    have h63' : ¬ (9223372036854775807 < (l.toNat : Int)) := by omega
    have hpos : ¬ l.toNat = 0 := by omega
    have hp2 : ¬ l ≤ 0 := by omega
    have hp3 : ¬ (9223372036854775807 < max l 0) := by omega
    refine ⟨.slice (some ⟨w.heap.size, 0, none⟩) l.toNat (grownCap w l.toNat 0 e), w.drew.alloc (.cells (Builtin.zeroCells z.cells l.toNat ++ Builtin.zeroCells z.cells (grownCap w l.toNat 0 e - l.toNat)) e), ?_, ⟨_, _, rfl⟩, Upd.allocD w _ e none,
      ⟨hlen, .inr ⟨w.heap.size, _, _, rfl, hb, heap_alloc_new w.drew _, hge, hcm, ?_, ?_⟩⟩, fun k hk => ?_⟩
    · by_cases hsz : i.size = 0
      · have hz0 : z.cells = #[] := Array.eq_empty_of_size_eq_zero (by omega)
        simp [Builtin.append_, run_underlying ht, run_underlying htx, sizeOf, typeInfo, hi, asInt, asIntOf, wl, n1, n2, hpos, hp2, hp3, hsz, h48', h63', Question.forced, Builtin.firstCells, zeroValue, hz, newRow, grownCap, Builtin.zeroCells, hz0, Array.range_zero']
      · have hne : ¬ (l.toNat * i.size = 0) := fun e0 => by rcases Nat.mul_eq_zero.1 e0 with h | h <;> omega
        simp [Builtin.append_, run_underlying ht, run_underlying htx, sizeOf, typeInfo, hi, asInt, asIntOf, wl, n1, n2, hpos, hp2, hp3, hsz, h48', h63', Question.forced, Builtin.firstCells, zeroValue, hz, newRow, grownCap]
        exact fun e0 => (hne e0).elim
    · simp only [Array.size_append, size_zeroCells, hzs, ← Nat.add_mul]
      congr 1
      omega
    · rw [Array.toList_append, hzc, ← hlen]
      exact List.take_left
    · simp [Value.ownBlock] at hk
      exact Nat.le_of_eq hk
theorem take_take_mul {xs cur : List Value} {n k es : Nat} (h : cur.take (n * es) = xs) (hk : k ≤ n) : cur.take (k * es) = xs.take (k * es) := by
  rw [← h, List.take_take, Nat.min_eq_left (Nat.mul_le_mul_right _ hk)]
/-- **A list of the run's own, cut at its end.** -/
theorem own_trunc {w : World} {base : Nat} {e : TypeId} {es n k c : Nat} {a : Option Addr} {xs : List Value} (h : w.ownsRow base e es (.slice a n c) n xs) (hk : k ≤ n) :
    w.ownsRow base e es (.slice (if c = 0 then a else a.map (·.add (0 * es))) k c) k (xs.take (k * es)) ∧ ∀ j, (Value.slice (if c = 0 then a else a.map (·.add (0 * es))) k c).ownBlock = some j → (Value.slice a n c).ownBlock = some j := by
  rcases h.2 with ⟨h2, h3⟩ | ⟨g, cap, cur, h2, h3, h4, h5, h6, h7, h8⟩
  · cases h2
    have : k = 0 := by omega
    subst this
    have hx : xs = [] := List.eq_nil_of_length_eq_zero (by simpa using h.1)
    subst hx
    exact ⟨by simpa using World.ownsRow_nil w base e es, fun j hj => by simp [Value.ownBlock] at hj⟩
  · cases h2
    have he : (if c = 0 then some (⟨g, 0, none⟩ : Addr) else (some (⟨g, 0, none⟩ : Addr)).map (·.add (0 * es))) = some ⟨g, 0, none⟩ := by
      split
      · rfl
      · simp only [Nat.zero_mul, Option.map_some, Addr.add_mid]
    rw [he]
    have hl : k * es ≤ n * es := Nat.mul_le_mul_right _ hk
    refine ⟨⟨by rw [List.length_take, h.1]; omega, .inr ⟨g, _, cur, rfl, h3, h4, by omega, h6, h7, ?_⟩⟩, fun j hj => hj⟩
    exact take_take_mul h8 hk
end Go.Proofs.Ytjjmnoiffpnphaa
