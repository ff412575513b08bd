import Derived.Test.YtiabgkiccaodmaaGreatZOP11
import Derived.Test.YtiabgkiccaodmaaGreatZOP12
set_option linter.all false
namespace Go.Proofs.YtiabgkiccaodmaaGreat
open Go Go.CE Go.RowKit
set_option maxHeartbeats 4000000 in
theorem wOpen_e (p : ShPass) (cd ch swell fd fh : Int)  {B : Lo} (hJ : ∀ w, B.has w → J0 w) : EndsT Tryz.prog B (entryC Tryz.prog 4 248 (([.agg (encPass p).toArray, callV cd ch, .int .i64 swell, callV fd fh]).map (pushT 0 4))) (.bool true) := by
 cases q0 : decide (List.length p.tides ≤ 60) with
 | true =>
   cases q1 : decide (List.length p.swell ≤ 70) with
   | true =>
     have hp0 : AllP (wOpen_p0 B p cd ch swell fd fh) := by
      try have g2 := inB_iff.1 ‹inB cd 0 _ = true›
      try have g3 := inB_iff.1 ‹inB ch 0 _ = true›
      try have g4 := inB_iff.1 ‹inB fd 0 _ = true›
      try have g5 := inB_iff.1 ‹inB fh 0 _ = true›
      try have f1 := nx_facts (p := p) (fd := fd) (fh := fh) (by omega) (by omega) ‹nF p fd fh = true›
      exact ⟨⟨trivial, (by have t_ := lpass (p); rw [q0, q1] at t_; exact t_)⟩, trivial⟩
     cases q2 : passB p with
     | true =>
       have hp1 : AllP (wOpen_p1 B p cd ch swell fd fh) := by
        try have g2 := inB_iff.1 ‹inB cd 0 _ = true›
        try have g3 := inB_iff.1 ‹inB ch 0 _ = true›
        try have g4 := inB_iff.1 ‹inB fd 0 _ = true›
        try have g5 := inB_iff.1 ‹inB fh 0 _ = true›
        try have f1 := nx_facts (p := p) (fd := fd) (fh := fh) (by omega) (by omega) ‹nF p fd fh = true›
        exact ⟨⟨trivial, (by have t_ := rPass (p); rw [q2] at t_; exact t_)⟩, hp0⟩
       cases q3 : inB cd 0 ((↑p.swell.length : Int) - 1) with
       | true =>
         cases q4 : inB ch 0 23 with
         | true =>
           have hp2 : AllP (wOpen_p2 B p cd ch swell fd fh) := by
            try have g2 := inB_iff.1 ‹inB cd 0 _ = true›
            try have g3 := inB_iff.1 ‹inB ch 0 _ = true›
            try have g4 := inB_iff.1 ‹inB fd 0 _ = true›
            try have g5 := inB_iff.1 ‹inB fh 0 _ = true›
            try have f1 := nx_facts (p := p) (fd := fd) (fh := fh) (by omega) (by omega) ‹nF p fd fh = true›
            exact ⟨⟨trivial, (by have t_ := rCall (p) (cd) (ch); rw [q3, q4] at t_; exact t_)⟩, hp1⟩
           cases q5 : inB fd 0 ((↑p.swell.length : Int) - 1) with
           | true =>
             cases q6 : inB fh 0 23 with
             | true =>
               have hp3 : AllP (wOpen_p3 B p cd ch swell fd fh) := by
                try have g2 := inB_iff.1 ‹inB cd 0 _ = true›
                try have g3 := inB_iff.1 ‹inB ch 0 _ = true›
                try have g4 := inB_iff.1 ‹inB fd 0 _ = true›
                try have g5 := inB_iff.1 ‹inB fh 0 _ = true›
                try have f1 := nx_facts (p := p) (fd := fd) (fh := fh) (by omega) (by omega) ‹nF p fd fh = true›
                exact ⟨⟨trivial, (by have t_ := rCall (p) (fd) (fh); rw [q5, q6] at t_; exact t_)⟩, hp2⟩
               cases q7 : inB swell (Span.lo (List.getD p.swell cd.toNat default)) (Span.hi (List.getD p.swell cd.toNat default)) with
               | true =>
                 cases q8 : goesB p cd ch swell with
                 | true =>
                   have hp4 : AllP (wOpen_p4 B p cd ch swell fd fh) := by
                    try have g2 := inB_iff.1 ‹inB cd 0 _ = true›
                    try have g3 := inB_iff.1 ‹inB ch 0 _ = true›
                    try have g4 := inB_iff.1 ‹inB fd 0 _ = true›
                    try have g5 := inB_iff.1 ‹inB fh 0 _ = true›
                    try have f1 := nx_facts (p := p) (fd := fd) (fh := fh) (by omega) (by omega) ‹nF p fd fh = true›
                    exact ⟨⟨by omega, by omega, (rowL_extract (z := 2) (fun _ => rfl) (by omega))⟩, ⟨⟨trivial, (by have t_ := pGoes (p) (cd) (ch) (swell); rw [q2, q3, q4, q7, q8] at t_; exact t_)⟩, hp3⟩⟩
                   by_cases q9 : (swell : Int) < (Span.lo (List.getD p.swell cd.toNat default))
                   ·
                    exfalso
                    (have g6 := inB_iff.1 ‹inB swell _ _ = true›; omega)
                   ·
                    have hp5 : AllP (wOpen_p5 B p cd ch swell fd fh) := by
                     try have g2 := inB_iff.1 ‹inB cd 0 _ = true›
                     try have g3 := inB_iff.1 ‹inB ch 0 _ = true›
                     try have g4 := inB_iff.1 ‹inB fd 0 _ = true›
                     try have g5 := inB_iff.1 ‹inB fh 0 _ = true›
                     try have f1 := nx_facts (p := p) (fd := fd) (fh := fh) (by omega) (by omega) ‹nF p fd fh = true›
                     exact ⟨⟨by omega, by omega, (rowL_extract (z := 2) (fun _ => rfl) (by omega))⟩, ⟨(ltq_f (Int.not_lt.1 q9)), hp4⟩⟩
                    by_cases q10 : (Span.hi (List.getD p.swell cd.toNat default) : Int) < (swell)
                    ·
                     exfalso
                     (have g6 := inB_iff.1 ‹inB swell _ _ = true›; omega)
                    ·
                     have hp6 : AllP (wOpen_p6 B p cd ch swell fd fh) := by
                      try have g2 := inB_iff.1 ‹inB cd 0 _ = true›
                      try have g3 := inB_iff.1 ‹inB ch 0 _ = true›
                      try have g4 := inB_iff.1 ‹inB fd 0 _ = true›
                      try have g5 := inB_iff.1 ‹inB fh 0 _ = true›
                      try have f1 := nx_facts (p := p) (fd := fd) (fh := fh) (by omega) (by omega) ‹nF p fd fh = true›
                      exact ⟨⟨trivial, (by have t_ := pHours (p) (cd); rw [q2, q3] at t_; exact t_)⟩, ⟨(ltq_f (Int.not_lt.1 q10)), hp5⟩⟩
                     cases q11 : nF p fd fh with
                     | true =>
                       have hp7 : AllP (wOpen_p7 B p cd ch swell fd fh) := by
                        try have g2 := inB_iff.1 ‹inB cd 0 _ = true›
                        try have g3 := inB_iff.1 ‹inB ch 0 _ = true›
                        try have g4 := inB_iff.1 ‹inB fd 0 _ = true›
                        try have g5 := inB_iff.1 ‹inB fh 0 _ = true›
                        try have f1 := nx_facts (p := p) (fd := fd) (fh := fh) (by omega) (by omega) ‹nF p fd fh = true›
                        exact ⟨⟨trivial, (by have t_ := pNext3 (p) (fd) (fh); rw [q2, q5, q6, q11] at t_; exact t_)⟩, hp6⟩
                       by_cases q12 : (24 : Int) < ((↑(List.length (hoursL p cd true 0)) : Int))
                       ·
                        exfalso
                        (have l1 := hoursL_len p cd true; omega)
                       ·
                        have hp8 : AllP (wOpen_p8 B p cd ch swell fd fh) := by
                         exact ⟨(ltq_f (Int.not_lt.1 q12)), hp7⟩
                        by_cases q13 : (24 : Int) < ((↑(List.length (hoursL p cd false 0)) : Int))
                        ·
                         exfalso
                         (have l1 := hoursL_len p cd false; omega)
                        ·
                         have hp9 : AllP (wOpen_p9 B p cd ch swell fd fh) := by
                          exact ⟨(ltq_f (Int.not_lt.1 q13)), hp8⟩
                         cases q14 : goesB p cd ch (Span.hi (List.getD p.swell cd.toNat default)) with
                         | true =>
                           have hp10 : AllP (wOpen_p10 B p cd ch swell fd fh) := by
                            try have g2 := inB_iff.1 ‹inB cd 0 _ = true›
                            try have g3 := inB_iff.1 ‹inB ch 0 _ = true›
                            try have g4 := inB_iff.1 ‹inB fd 0 _ = true›
                            try have g5 := inB_iff.1 ‹inB fh 0 _ = true›
                            try have f1 := nx_facts (p := p) (fd := fd) (fh := fh) (by omega) (by omega) ‹nF p fd fh = true›
                            exact ⟨⟨trivial, (by have t_ := rHasH (p) (cd) (ch) (by first | with_reducible assumption | omega | simp_all); rw [q14] at t_; exact t_)⟩, hp9⟩
                           cases q15 : goesB p cd ch (Span.lo (List.getD p.swell cd.toNat default)) with
                           | true =>
                             have hp11 : AllP (wOpen_p11 B p cd ch swell fd fh) := by
                              try have g2 := inB_iff.1 ‹inB cd 0 _ = true›
                              try have g3 := inB_iff.1 ‹inB ch 0 _ = true›
                              try have g4 := inB_iff.1 ‹inB fd 0 _ = true›
                              try have g5 := inB_iff.1 ‹inB fh 0 _ = true›
                              try have f1 := nx_facts (p := p) (fd := fd) (fh := fh) (by omega) (by omega) ‹nF p fd fh = true›
                              exact ⟨⟨trivial, (by have t_ := rHasL (p) (cd) (ch) (by first | with_reducible assumption | omega | simp_all); rw [q15] at t_; exact t_)⟩, hp10⟩
                             by_cases q16 : (fd : Int) < (cd)
                             ·
                              have hp12 : AllP (wOpen_p12 B p cd ch swell fd fh) := by
                               exact ⟨(ltq_t q16), hp11⟩
                              cases q17 : inB (nD p fd fh) 0 ((↑p.swell.length : Int) - 1) with
                              | true =>
                                cases q18 : inB (nH p fd fh) 0 23 with
                                | true =>
                                  have hp13 : AllP (wOpen_p13 B p cd ch swell fd fh) := by
                                   try have g2 := inB_iff.1 ‹inB cd 0 _ = true›
                                   try have g3 := inB_iff.1 ‹inB ch 0 _ = true›
                                   try have g4 := inB_iff.1 ‹inB fd 0 _ = true›
                                   try have g5 := inB_iff.1 ‹inB fh 0 _ = true›
                                   try have f1 := nx_facts (p := p) (fd := fd) (fh := fh) (by omega) (by omega) ‹nF p fd fh = true›
                                   exact ⟨⟨trivial, (by have t_ := rCall (p) (nD p fd fh) (nH p fd fh); rw [q17, q18] at t_; exact t_)⟩, hp12⟩
                                  by_cases q19 : (nD p fd fh : Int) < (fd)
                                  ·
                                   exfalso
                                   (have g2 := inB_iff.1 ‹inB cd 0 _ = true›; have g3 := inB_iff.1 ‹inB ch 0 _ = true›; have g4 := inB_iff.1 ‹inB fd 0 _ = true›; have g5 := inB_iff.1 ‹inB fh 0 _ = true›; have f1 := nx_facts (p := p) (fd := fd) (fh := fh) (by omega) (by omega) ‹nF p fd fh = true›; first | omega | (simp [inB] at *; omega))
                                  ·
                                   have hp14 : AllP (wOpen_p14 B p cd ch swell fd fh) := by
                                    exact ⟨(ltq_f (Int.not_lt.1 q19)), hp13⟩
                                   by_cases q20 : (nD p fd fh : Int) = (fd)
                                   ·
                                    by_cases q21 : (nH p fd fh : Int) < (fh)
                                    ·
                                     exfalso
                                     (have g2 := inB_iff.1 ‹inB cd 0 _ = true›; have g3 := inB_iff.1 ‹inB ch 0 _ = true›; have g4 := inB_iff.1 ‹inB fd 0 _ = true›; have g5 := inB_iff.1 ‹inB fh 0 _ = true›; have f1 := nx_facts (p := p) (fd := fd) (fh := fh) (by omega) (by omega) ‹nF p fd fh = true›; first | omega | (simp [inB] at *; omega))
                                    ·
                                     by_cases q22 : (cd : Int) < (nD p fd fh)
                                     ·
                                      exfalso
                                      (have g6 := inB_iff.1 ‹inB swell _ _ = true›; omega)
                                     ·
                                      by_cases q23 : (cd : Int) = (nD p fd fh)
                                      ·
                                       exfalso
                                       (have g6 := inB_iff.1 ‹inB swell _ _ = true›; omega)
                                      ·
                                       by_cases q24 : ((↑(List.length (hoursL p (nD p fd fh) true 0)) : Int) : Int) ≤ (24)
                                       ·
                                        cases q25 : goesB p (nD p fd fh) (nH p fd fh) (Span.hi (List.getD p.swell (Int.toNat (nD p fd fh)) default)) with
                                        | true =>
                                          try have g2 := inB_iff.1 ‹inB cd 0 _ = true›
                                          try have g3 := inB_iff.1 ‹inB ch 0 _ = true›
                                          try have g4 := inB_iff.1 ‹inB fd 0 _ = true›
                                          try have g5 := inB_iff.1 ‹inB fh 0 _ = true›
                                          try have f1 := nx_facts (p := p) (fd := fd) (fh := fh) (by omega) (by omega) ‹nF p fd fh = true›
                                          exact (GoE.endsT okF hJ mixed_ok GoE.start (wOpen_s0 B p cd ch swell fd fh)
                                           ⟨⟨trivial, known⟩, ⟨⟨trivial, (by have t_ := rHasH (p) (nD p fd fh) (nH p fd fh) (by first | with_reducible assumption | omega | simp_all); rw [q25] at t_; exact t_)⟩, ⟨(nltq_t q24), ⟨(eqq_f q23), ⟨(ltq_f (Int.not_lt.1 q22)), ⟨⟨trivial, (by have t_ := pHours (p) (nD p fd fh); rw [q2, q17] at t_; exact t_)⟩, ⟨(ltq_f (Int.not_lt.1 q21)), ⟨(eqq_t q20), hp14⟩⟩⟩⟩⟩⟩⟩⟩).cast rfl
                                        | false =>
                                          exfalso
                                          (have g2 := inB_iff.1 ‹inB cd 0 _ = true›; have g3 := inB_iff.1 ‹inB ch 0 _ = true›; have g4 := inB_iff.1 ‹inB fd 0 _ = true›; have g5 := inB_iff.1 ‹inB fh 0 _ = true›; have f1 := nx_facts (p := p) (fd := fd) (fh := fh) (by omega) (by omega) ‹nF p fd fh = true›; exact no_tf f1.2.1 (by assumption))
                                       ·
                                        exfalso
                                        (have l1 := hoursL_len p (nD p fd fh) true; omega)
                                   ·
                                    have hp15 : AllP (wOpen_p15 B p cd ch swell fd fh) := by
                                     try have g2 := inB_iff.1 ‹inB cd 0 _ = true›
                                     try have g3 := inB_iff.1 ‹inB ch 0 _ = true›
                                     try have g4 := inB_iff.1 ‹inB fd 0 _ = true›
                                     try have g5 := inB_iff.1 ‹inB fh 0 _ = true›
                                     try have f1 := nx_facts (p := p) (fd := fd) (fh := fh) (by omega) (by omega) ‹nF p fd fh = true›
                                     exact ⟨⟨trivial, (by have t_ := pHours (p) (nD p fd fh); rw [q2, q17] at t_; exact t_)⟩, ⟨(eqq_f q20), hp14⟩⟩
                                    by_cases q21 : (cd : Int) < (nD p fd fh)
                                    ·
                                     exfalso
                                     (have g2 := inB_iff.1 ‹inB cd 0 _ = true›; have g3 := inB_iff.1 ‹inB ch 0 _ = true›; have g4 := inB_iff.1 ‹inB fd 0 _ = true›; have g5 := inB_iff.1 ‹inB fh 0 _ = true›; have f1 := nx_facts (p := p) (fd := fd) (fh := fh) (by omega) (by omega) ‹nF p fd fh = true›; have m3 := f1.2.2 cd ch (by omega) (by omega) (by omega) (by omega) (by omega); exact no_tf (by assumption) m3)
                                    ·
                                     have hp16 : AllP (wOpen_p16 B p cd ch swell fd fh) := by
                                      exact ⟨(ltq_f (Int.not_lt.1 q21)), hp15⟩
                                     by_cases q22 : (cd : Int) = (nD p fd fh)
                                     ·
                                      by_cases q23 : (ch : Int) < (nH p fd fh)
                                      ·
                                       exfalso
                                       (have g2 := inB_iff.1 ‹inB cd 0 _ = true›; have g3 := inB_iff.1 ‹inB ch 0 _ = true›; have g4 := inB_iff.1 ‹inB fd 0 _ = true›; have g5 := inB_iff.1 ‹inB fh 0 _ = true›; have f1 := nx_facts (p := p) (fd := fd) (fh := fh) (by omega) (by omega) ‹nF p fd fh = true›; have m3 := f1.2.2 cd ch (by omega) (by omega) (by omega) (by omega) (by omega); exact no_tf (by assumption) m3)
                                      ·
                                       by_cases q24 : ((↑(List.length (hoursL p (nD p fd fh) true 0)) : Int) : Int) ≤ (24)
                                       ·
                                        cases q25 : goesB p (nD p fd fh) (nH p fd fh) (Span.hi (List.getD p.swell (Int.toNat (nD p fd fh)) default)) with
                                        | true =>
                                          try have g2 := inB_iff.1 ‹inB cd 0 _ = true›
                                          try have g3 := inB_iff.1 ‹inB ch 0 _ = true›
                                          try have g4 := inB_iff.1 ‹inB fd 0 _ = true›
                                          try have g5 := inB_iff.1 ‹inB fh 0 _ = true›
                                          try have f1 := nx_facts (p := p) (fd := fd) (fh := fh) (by omega) (by omega) ‹nF p fd fh = true›
                                          exact (GoE.endsT okF hJ mixed_ok GoE.start (wOpen_s1 B p cd ch swell fd fh)
                                           ⟨⟨trivial, known⟩, ⟨⟨trivial, (by have t_ := rHasH (p) (nD p fd fh) (nH p fd fh) (by first | with_reducible assumption | omega | simp_all); rw [q25] at t_; exact t_)⟩, ⟨(nltq_t q24), ⟨(ltq_f (Int.not_lt.1 q23)), ⟨(eqq_t q22), hp16⟩⟩⟩⟩⟩).cast rfl
                                        | false =>
                                          exfalso
                                          (have g2 := inB_iff.1 ‹inB cd 0 _ = true›; have g3 := inB_iff.1 ‹inB ch 0 _ = true›; have g4 := inB_iff.1 ‹inB fd 0 _ = true›; have g5 := inB_iff.1 ‹inB fh 0 _ = true›; have f1 := nx_facts (p := p) (fd := fd) (fh := fh) (by omega) (by omega) ‹nF p fd fh = true›; exact no_tf f1.2.1 (by assumption))
                                       ·
                                        exfalso
                                        (have l1 := hoursL_len p (nD p fd fh) true; omega)
                                     ·
                                      by_cases q23 : ((↑(List.length (hoursL p (nD p fd fh) true 0)) : Int) : Int) ≤ (24)
                                      ·
                                       cases q24 : goesB p (nD p fd fh) (nH p fd fh) (Span.hi (List.getD p.swell (Int.toNat (nD p fd fh)) default)) with
                                       | true =>
                                         try have g2 := inB_iff.1 ‹inB cd 0 _ = true›
                                         try have g3 := inB_iff.1 ‹inB ch 0 _ = true›
                                         try have g4 := inB_iff.1 ‹inB fd 0 _ = true›
                                         try have g5 := inB_iff.1 ‹inB fh 0 _ = true›
                                         try have f1 := nx_facts (p := p) (fd := fd) (fh := fh) (by omega) (by omega) ‹nF p fd fh = true›
                                         exact (GoE.endsT okF hJ mixed_ok GoE.start (wOpen_s2 B p cd ch swell fd fh)
                                          ⟨⟨trivial, known⟩, ⟨⟨trivial, (by have t_ := rHasH (p) (nD p fd fh) (nH p fd fh) (by first | with_reducible assumption | omega | simp_all); rw [q24] at t_; exact t_)⟩, ⟨(nltq_t q23), ⟨(eqq_f q22), hp16⟩⟩⟩⟩).cast rfl
                                       | false =>
                                         exfalso
                                         (have g2 := inB_iff.1 ‹inB cd 0 _ = true›; have g3 := inB_iff.1 ‹inB ch 0 _ = true›; have g4 := inB_iff.1 ‹inB fd 0 _ = true›; have g5 := inB_iff.1 ‹inB fh 0 _ = true›; have f1 := nx_facts (p := p) (fd := fd) (fh := fh) (by omega) (by omega) ‹nF p fd fh = true›; exact no_tf f1.2.1 (by assumption))
                                      ·
                                       exfalso
                                       (have l1 := hoursL_len p (nD p fd fh) true; omega)
                                | false =>
                                  exfalso
                                  (have g2 := inB_iff.1 ‹inB cd 0 _ = true›; have g3 := inB_iff.1 ‹inB ch 0 _ = true›; have g4 := inB_iff.1 ‹inB fd 0 _ = true›; have g5 := inB_iff.1 ‹inB fh 0 _ = true›; have f1 := nx_facts (p := p) (fd := fd) (fh := fh) (by omega) (by omega) ‹nF p fd fh = true›; first | omega | (simp [inB] at *; omega))
                              | false =>
                                exfalso
                                (have g2 := inB_iff.1 ‹inB cd 0 _ = true›; have g3 := inB_iff.1 ‹inB ch 0 _ = true›; have g4 := inB_iff.1 ‹inB fd 0 _ = true›; have g5 := inB_iff.1 ‹inB fh 0 _ = true›; have f1 := nx_facts (p := p) (fd := fd) (fh := fh) (by omega) (by omega) ‹nF p fd fh = true›; first | omega | (simp [inB] at *; omega))
                             ·
                              have hp17 : AllP (wOpen_p17 B p cd ch swell fd fh) := by
                               exact ⟨(ltq_f (Int.not_lt.1 q16)), hp11⟩
                              by_cases q17 : (cd : Int) = (fd)
                              ·
                               have hp18 : AllP (wOpen_p18 B p cd ch swell fd fh) := by
                                exact ⟨(eqq_t q17), hp17⟩
                               by_cases q18 : (fh : Int) ≤ (ch)
                               ·
                                cases q19 : inB (nD p fd fh) 0 ((↑p.swell.length : Int) - 1) with
                                | true =>
                                  cases q20 : inB (nH p fd fh) 0 23 with
                                  | true =>
                                    by_cases q21 : (nD p fd fh : Int) < (fd)
                                    ·
                                     exfalso
                                     (have g2 := inB_iff.1 ‹inB cd 0 _ = true›; have g3 := inB_iff.1 ‹inB ch 0 _ = true›; have g4 := inB_iff.1 ‹inB fd 0 _ = true›; have g5 := inB_iff.1 ‹inB fh 0 _ = true›; have f1 := nx_facts (p := p) (fd := fd) (fh := fh) (by omega) (by omega) ‹nF p fd fh = true›; first | omega | (simp [inB] at *; omega))
                                    ·
                                     by_cases q22 : (nD p fd fh : Int) = (fd)
                                     ·
                                      by_cases q23 : (nH p fd fh : Int) < (fh)
                                      ·
                                       exfalso
                                       (have g2 := inB_iff.1 ‹inB cd 0 _ = true›; have g3 := inB_iff.1 ‹inB ch 0 _ = true›; have g4 := inB_iff.1 ‹inB fd 0 _ = true›; have g5 := inB_iff.1 ‹inB fh 0 _ = true›; have f1 := nx_facts (p := p) (fd := fd) (fh := fh) (by omega) (by omega) ‹nF p fd fh = true›; first | omega | (simp [inB] at *; omega))
                                      ·
                                       by_cases q24 : (cd : Int) < (nD p fd fh)
                                       ·
                                        exfalso
                                        (have g6 := inB_iff.1 ‹inB swell _ _ = true›; omega)
                                       ·
                                        by_cases q25 : (cd : Int) = (nD p fd fh)
                                        ·
                                         by_cases q26 : (ch : Int) < (nH p fd fh)
                                         ·
                                          exfalso
                                          (have g2 := inB_iff.1 ‹inB cd 0 _ = true›; have g3 := inB_iff.1 ‹inB ch 0 _ = true›; have g4 := inB_iff.1 ‹inB fd 0 _ = true›; have g5 := inB_iff.1 ‹inB fh 0 _ = true›; have f1 := nx_facts (p := p) (fd := fd) (fh := fh) (by omega) (by omega) ‹nF p fd fh = true›; have m3 := f1.2.2 cd ch (by omega) (by omega) (by omega) (by omega) (by omega); exact no_tf (by assumption) m3)
                                         ·
                                          by_cases q27 : ((↑(List.length (hoursL p (nD p fd fh) true 0)) : Int) : Int) ≤ (24)
                                          ·
                                           cases q28 : goesB p (nD p fd fh) (nH p fd fh) (Span.hi (List.getD p.swell (Int.toNat (nD p fd fh)) default)) with
                                           | true =>
                                             try have g2 := inB_iff.1 ‹inB cd 0 _ = true›
                                             try have g3 := inB_iff.1 ‹inB ch 0 _ = true›
                                             try have g4 := inB_iff.1 ‹inB fd 0 _ = true›
                                             try have g5 := inB_iff.1 ‹inB fh 0 _ = true›
                                             try have f1 := nx_facts (p := p) (fd := fd) (fh := fh) (by omega) (by omega) ‹nF p fd fh = true›
                                             exact (GoE.endsT okF hJ mixed_ok GoE.start (wOpen_s3 B p cd ch swell fd fh)
                                              ⟨⟨trivial, known⟩, ⟨⟨trivial, (by have t_ := rHasH (p) (nD p fd fh) (nH p fd fh) (by first | with_reducible assumption | omega | simp_all); rw [q28] at t_; exact t_)⟩, ⟨(nltq_t q27), ⟨(ltq_f (Int.not_lt.1 q26)), ⟨(eqq_t q25), ⟨(ltq_f (Int.not_lt.1 q24)), ⟨⟨trivial, (by have t_ := pHours (p) (nD p fd fh); rw [q2, q19] at t_; exact t_)⟩, ⟨(ltq_f (Int.not_lt.1 q23)), ⟨(eqq_t q22), ⟨(ltq_f (Int.not_lt.1 q21)), ⟨⟨trivial, (by have t_ := rCall (p) (nD p fd fh) (nH p fd fh); rw [q19, q20] at t_; exact t_)⟩, ⟨(nltq_t q18), hp18⟩⟩⟩⟩⟩⟩⟩⟩⟩⟩⟩⟩).cast rfl
                                           | false =>
                                             exfalso
                                             (have g2 := inB_iff.1 ‹inB cd 0 _ = true›; have g3 := inB_iff.1 ‹inB ch 0 _ = true›; have g4 := inB_iff.1 ‹inB fd 0 _ = true›; have g5 := inB_iff.1 ‹inB fh 0 _ = true›; have f1 := nx_facts (p := p) (fd := fd) (fh := fh) (by omega) (by omega) ‹nF p fd fh = true›; exact no_tf f1.2.1 (by assumption))
                                          ·
                                           exfalso
                                           (have l1 := hoursL_len p (nD p fd fh) true; omega)
                                        ·
                                         exfalso
                                         (have g6 := inB_iff.1 ‹inB swell _ _ = true›; omega)
                                     ·
                                      exfalso
                                      (have g2 := inB_iff.1 ‹inB cd 0 _ = true›; have g3 := inB_iff.1 ‹inB ch 0 _ = true›; have g4 := inB_iff.1 ‹inB fd 0 _ = true›; have g5 := inB_iff.1 ‹inB fh 0 _ = true›; have f1 := nx_facts (p := p) (fd := fd) (fh := fh) (by omega) (by omega) ‹nF p fd fh = true›; have m3 := f1.2.2 cd ch (by omega) (by omega) (by omega) (by omega) (by omega); exact no_tf (by assumption) m3)
                                  | false =>
                                    exfalso
                                    (have g2 := inB_iff.1 ‹inB cd 0 _ = true›; have g3 := inB_iff.1 ‹inB ch 0 _ = true›; have g4 := inB_iff.1 ‹inB fd 0 _ = true›; have g5 := inB_iff.1 ‹inB fh 0 _ = true›; have f1 := nx_facts (p := p) (fd := fd) (fh := fh) (by omega) (by omega) ‹nF p fd fh = true›; first | omega | (simp [inB] at *; omega))
                                | false =>
                                  exfalso
                                  (have g2 := inB_iff.1 ‹inB cd 0 _ = true›; have g3 := inB_iff.1 ‹inB ch 0 _ = true›; have g4 := inB_iff.1 ‹inB fd 0 _ = true›; have g5 := inB_iff.1 ‹inB fh 0 _ = true›; have f1 := nx_facts (p := p) (fd := fd) (fh := fh) (by omega) (by omega) ‹nF p fd fh = true›; first | omega | (simp [inB] at *; omega))
                               ·
                                have hp19 : AllP (wOpen_p19 B p cd ch swell fd fh) := by
                                 exact ⟨(nltq_f (Int.not_le.1 q18)), hp18⟩
                                cases q19 : inB (nD p fd fh) 0 ((↑p.swell.length : Int) - 1) with
                                | true =>
                                  cases q20 : inB (nH p fd fh) 0 23 with
                                  | true =>
                                    have hp20 : AllP (wOpen_p20 B p cd ch swell fd fh) := by
                                     try have g2 := inB_iff.1 ‹inB cd 0 _ = true›
                                     try have g3 := inB_iff.1 ‹inB ch 0 _ = true›
                                     try have g4 := inB_iff.1 ‹inB fd 0 _ = true›
                                     try have g5 := inB_iff.1 ‹inB fh 0 _ = true›
                                     try have f1 := nx_facts (p := p) (fd := fd) (fh := fh) (by omega) (by omega) ‹nF p fd fh = true›
                                     exact ⟨⟨trivial, (by have t_ := rCall (p) (nD p fd fh) (nH p fd fh); rw [q19, q20] at t_; exact t_)⟩, hp19⟩
                                    by_cases q21 : (nD p fd fh : Int) < (fd)
                                    ·
                                     exfalso
                                     (have g2 := inB_iff.1 ‹inB cd 0 _ = true›; have g3 := inB_iff.1 ‹inB ch 0 _ = true›; have g4 := inB_iff.1 ‹inB fd 0 _ = true›; have g5 := inB_iff.1 ‹inB fh 0 _ = true›; have f1 := nx_facts (p := p) (fd := fd) (fh := fh) (by omega) (by omega) ‹nF p fd fh = true›; first | omega | (simp [inB] at *; omega))
                                    ·
                                     have hp21 : AllP (wOpen_p21 B p cd ch swell fd fh) := by
                                      exact ⟨(ltq_f (Int.not_lt.1 q21)), hp20⟩
                                     by_cases q22 : (nD p fd fh : Int) = (fd)
                                     ·
                                      by_cases q23 : (nH p fd fh : Int) < (fh)
                                      ·
                                       exfalso
                                       (have g2 := inB_iff.1 ‹inB cd 0 _ = true›; have g3 := inB_iff.1 ‹inB ch 0 _ = true›; have g4 := inB_iff.1 ‹inB fd 0 _ = true›; have g5 := inB_iff.1 ‹inB fh 0 _ = true›; have f1 := nx_facts (p := p) (fd := fd) (fh := fh) (by omega) (by omega) ‹nF p fd fh = true›; first | omega | (simp [inB] at *; omega))
                                      ·
                                       by_cases q24 : (cd : Int) < (nD p fd fh)
                                       ·
                                        exfalso
                                        (have g6 := inB_iff.1 ‹inB swell _ _ = true›; omega)
                                       ·
                                        by_cases q25 : (cd : Int) = (nD p fd fh)
                                        ·
                                         by_cases q26 : (ch : Int) < (nH p fd fh)
                                         ·
                                          by_cases q27 : ((↑(List.length (hoursL p (nD p fd fh) true 0)) : Int) : Int) ≤ (24)
                                          ·
                                           cases q28 : goesB p (nD p fd fh) (nH p fd fh) (Span.hi (List.getD p.swell (Int.toNat (nD p fd fh)) default)) with
                                           | true =>
                                             try have g2 := inB_iff.1 ‹inB cd 0 _ = true›
                                             try have g3 := inB_iff.1 ‹inB ch 0 _ = true›
                                             try have g4 := inB_iff.1 ‹inB fd 0 _ = true›
                                             try have g5 := inB_iff.1 ‹inB fh 0 _ = true›
                                             try have f1 := nx_facts (p := p) (fd := fd) (fh := fh) (by omega) (by omega) ‹nF p fd fh = true›
                                             exact (GoE.endsT okF hJ mixed_ok GoE.start (wOpen_s4 B p cd ch swell fd fh)
                                              ⟨⟨trivial, known⟩, ⟨⟨trivial, (by have t_ := rHasH (p) (nD p fd fh) (nH p fd fh) (by first | with_reducible assumption | omega | simp_all); rw [q28] at t_; exact t_)⟩, ⟨(nltq_t q27), ⟨(ltq_t q26), ⟨(eqq_t q25), ⟨(ltq_f (Int.not_lt.1 q24)), ⟨⟨trivial, (by have t_ := pHours (p) (nD p fd fh); rw [q2, q19] at t_; exact t_)⟩, ⟨(ltq_f (Int.not_lt.1 q23)), ⟨(eqq_t q22), hp21⟩⟩⟩⟩⟩⟩⟩⟩⟩).cast rfl
                                           | false =>
                                             exfalso
                                             (have g2 := inB_iff.1 ‹inB cd 0 _ = true›; have g3 := inB_iff.1 ‹inB ch 0 _ = true›; have g4 := inB_iff.1 ‹inB fd 0 _ = true›; have g5 := inB_iff.1 ‹inB fh 0 _ = true›; have f1 := nx_facts (p := p) (fd := fd) (fh := fh) (by omega) (by omega) ‹nF p fd fh = true›; exact no_tf f1.2.1 (by assumption))
                                          ·
                                           exfalso
                                           (have l1 := hoursL_len p (nD p fd fh) true; omega)
                                         ·
                                          exfalso
                                          (have g6 := inB_iff.1 ‹inB swell _ _ = true›; omega)
                                        ·
                                         exfalso
                                         (have g6 := inB_iff.1 ‹inB swell _ _ = true›; omega)
                                     ·
                                      by_cases q23 : (cd : Int) < (nD p fd fh)
                                      ·
                                       by_cases q24 : ((↑(List.length (hoursL p (nD p fd fh) true 0)) : Int) : Int) ≤ (24)
                                       ·
                                        cases q25 : goesB p (nD p fd fh) (nH p fd fh) (Span.hi (List.getD p.swell (Int.toNat (nD p fd fh)) default)) with
                                        | true =>
                                          try have g2 := inB_iff.1 ‹inB cd 0 _ = true›
                                          try have g3 := inB_iff.1 ‹inB ch 0 _ = true›
                                          try have g4 := inB_iff.1 ‹inB fd 0 _ = true›
                                          try have g5 := inB_iff.1 ‹inB fh 0 _ = true›
                                          try have f1 := nx_facts (p := p) (fd := fd) (fh := fh) (by omega) (by omega) ‹nF p fd fh = true›
                                          exact (GoE.endsT okF hJ mixed_ok GoE.start (wOpen_s5 B p cd ch swell fd fh)
                                           ⟨⟨trivial, known⟩, ⟨⟨trivial, (by have t_ := rHasH (p) (nD p fd fh) (nH p fd fh) (by first | with_reducible assumption | omega | simp_all); rw [q25] at t_; exact t_)⟩, ⟨(nltq_t q24), ⟨(ltq_t q23), ⟨⟨trivial, (by have t_ := pHours (p) (nD p fd fh); rw [q2, q19] at t_; exact t_)⟩, ⟨(eqq_f q22), hp21⟩⟩⟩⟩⟩⟩).cast rfl
                                        | false =>
                                          exfalso
                                          (have g2 := inB_iff.1 ‹inB cd 0 _ = true›; have g3 := inB_iff.1 ‹inB ch 0 _ = true›; have g4 := inB_iff.1 ‹inB fd 0 _ = true›; have g5 := inB_iff.1 ‹inB fh 0 _ = true›; have f1 := nx_facts (p := p) (fd := fd) (fh := fh) (by omega) (by omega) ‹nF p fd fh = true›; exact no_tf f1.2.1 (by assumption))
                                       ·
                                        exfalso
                                        (have l1 := hoursL_len p (nD p fd fh) true; omega)
                                      ·
                                       exfalso
                                       (have g6 := inB_iff.1 ‹inB swell _ _ = true›; omega)
                                  | false =>
                                    exfalso
                                    (have g2 := inB_iff.1 ‹inB cd 0 _ = true›; have g3 := inB_iff.1 ‹inB ch 0 _ = true›; have g4 := inB_iff.1 ‹inB fd 0 _ = true›; have g5 := inB_iff.1 ‹inB fh 0 _ = true›; have f1 := nx_facts (p := p) (fd := fd) (fh := fh) (by omega) (by omega) ‹nF p fd fh = true›; first | omega | (simp [inB] at *; omega))
                                | false =>
                                  exfalso
                                  (have g2 := inB_iff.1 ‹inB cd 0 _ = true›; have g3 := inB_iff.1 ‹inB ch 0 _ = true›; have g4 := inB_iff.1 ‹inB fd 0 _ = true›; have g5 := inB_iff.1 ‹inB fh 0 _ = true›; have f1 := nx_facts (p := p) (fd := fd) (fh := fh) (by omega) (by omega) ‹nF p fd fh = true›; first | omega | (simp [inB] at *; omega))
                              ·
                               have hp22 : AllP (wOpen_p22 B p cd ch swell fd fh) := by
                                exact ⟨(eqq_f q17), hp17⟩
                               cases q18 : inB (nD p fd fh) 0 ((↑p.swell.length : Int) - 1) with
                               | true =>
                                 cases q19 : inB (nH p fd fh) 0 23 with
                                 | true =>
                                   have hp23 : AllP (wOpen_p23 B p cd ch swell fd fh) := by
                                    try have g2 := inB_iff.1 ‹inB cd 0 _ = true›
                                    try have g3 := inB_iff.1 ‹inB ch 0 _ = true›
                                    try have g4 := inB_iff.1 ‹inB fd 0 _ = true›
                                    try have g5 := inB_iff.1 ‹inB fh 0 _ = true›
                                    try have f1 := nx_facts (p := p) (fd := fd) (fh := fh) (by omega) (by omega) ‹nF p fd fh = true›
                                    exact ⟨⟨trivial, (by have t_ := rCall (p) (nD p fd fh) (nH p fd fh); rw [q18, q19] at t_; exact t_)⟩, hp22⟩
                                   by_cases q20 : (nD p fd fh : Int) < (fd)
                                   ·
                                    exfalso
                                    (have g2 := inB_iff.1 ‹inB cd 0 _ = true›; have g3 := inB_iff.1 ‹inB ch 0 _ = true›; have g4 := inB_iff.1 ‹inB fd 0 _ = true›; have g5 := inB_iff.1 ‹inB fh 0 _ = true›; have f1 := nx_facts (p := p) (fd := fd) (fh := fh) (by omega) (by omega) ‹nF p fd fh = true›; first | omega | (simp [inB] at *; omega))
                                   ·
                                    have hp24 : AllP (wOpen_p24 B p cd ch swell fd fh) := by
                                     exact ⟨(ltq_f (Int.not_lt.1 q20)), hp23⟩
                                    by_cases q21 : (nD p fd fh : Int) = (fd)
                                    ·
                                     by_cases q22 : (nH p fd fh : Int) < (fh)
                                     ·
                                      exfalso
                                      (have g2 := inB_iff.1 ‹inB cd 0 _ = true›; have g3 := inB_iff.1 ‹inB ch 0 _ = true›; have g4 := inB_iff.1 ‹inB fd 0 _ = true›; have g5 := inB_iff.1 ‹inB fh 0 _ = true›; have f1 := nx_facts (p := p) (fd := fd) (fh := fh) (by omega) (by omega) ‹nF p fd fh = true›; first | omega | (simp [inB] at *; omega))
                                     ·
                                      by_cases q23 : (cd : Int) < (nD p fd fh)
                                      ·
                                       by_cases q24 : ((↑(List.length (hoursL p (nD p fd fh) true 0)) : Int) : Int) ≤ (24)
                                       ·
                                        cases q25 : goesB p (nD p fd fh) (nH p fd fh) (Span.hi (List.getD p.swell (Int.toNat (nD p fd fh)) default)) with
                                        | true =>
                                          try have g2 := inB_iff.1 ‹inB cd 0 _ = true›
                                          try have g3 := inB_iff.1 ‹inB ch 0 _ = true›
                                          try have g4 := inB_iff.1 ‹inB fd 0 _ = true›
                                          try have g5 := inB_iff.1 ‹inB fh 0 _ = true›
                                          try have f1 := nx_facts (p := p) (fd := fd) (fh := fh) (by omega) (by omega) ‹nF p fd fh = true›
                                          exact (GoE.endsT okF hJ mixed_ok GoE.start (wOpen_s6 B p cd ch swell fd fh)
                                           ⟨⟨trivial, known⟩, ⟨⟨trivial, (by have t_ := rHasH (p) (nD p fd fh) (nH p fd fh) (by first | with_reducible assumption | omega | simp_all); rw [q25] at t_; exact t_)⟩, ⟨(nltq_t q24), ⟨(ltq_t q23), ⟨⟨trivial, (by have t_ := pHours (p) (nD p fd fh); rw [q2, q18] at t_; exact t_)⟩, ⟨(ltq_f (Int.not_lt.1 q22)), ⟨(eqq_t q21), hp24⟩⟩⟩⟩⟩⟩⟩).cast rfl
                                        | false =>
                                          exfalso
                                          (have g2 := inB_iff.1 ‹inB cd 0 _ = true›; have g3 := inB_iff.1 ‹inB ch 0 _ = true›; have g4 := inB_iff.1 ‹inB fd 0 _ = true›; have g5 := inB_iff.1 ‹inB fh 0 _ = true›; have f1 := nx_facts (p := p) (fd := fd) (fh := fh) (by omega) (by omega) ‹nF p fd fh = true›; exact no_tf f1.2.1 (by assumption))
                                       ·
                                        exfalso
                                        (have l1 := hoursL_len p (nD p fd fh) true; omega)
                                      ·
                                       exfalso
                                       (have g6 := inB_iff.1 ‹inB swell _ _ = true›; omega)
                                    ·
                                     by_cases q22 : (cd : Int) < (nD p fd fh)
                                     ·
                                      by_cases q23 : ((↑(List.length (hoursL p (nD p fd fh) true 0)) : Int) : Int) ≤ (24)
                                      ·
                                       cases q24 : goesB p (nD p fd fh) (nH p fd fh) (Span.hi (List.getD p.swell (Int.toNat (nD p fd fh)) default)) with
                                       | true =>
                                         try have g2 := inB_iff.1 ‹inB cd 0 _ = true›
                                         try have g3 := inB_iff.1 ‹inB ch 0 _ = true›
                                         try have g4 := inB_iff.1 ‹inB fd 0 _ = true›
                                         try have g5 := inB_iff.1 ‹inB fh 0 _ = true›
                                         try have f1 := nx_facts (p := p) (fd := fd) (fh := fh) (by omega) (by omega) ‹nF p fd fh = true›
                                         exact (GoE.endsT okF hJ mixed_ok GoE.start (wOpen_s7 B p cd ch swell fd fh)
                                          ⟨⟨trivial, known⟩, ⟨⟨trivial, (by have t_ := rHasH (p) (nD p fd fh) (nH p fd fh) (by first | with_reducible assumption | omega | simp_all); rw [q24] at t_; exact t_)⟩, ⟨(nltq_t q23), ⟨(ltq_t q22), ⟨⟨trivial, (by have t_ := pHours (p) (nD p fd fh); rw [q2, q18] at t_; exact t_)⟩, ⟨(eqq_f q21), hp24⟩⟩⟩⟩⟩⟩).cast rfl
                                       | false =>
                                         exfalso
                                         (have g2 := inB_iff.1 ‹inB cd 0 _ = true›; have g3 := inB_iff.1 ‹inB ch 0 _ = true›; have g4 := inB_iff.1 ‹inB fd 0 _ = true›; have g5 := inB_iff.1 ‹inB fh 0 _ = true›; have f1 := nx_facts (p := p) (fd := fd) (fh := fh) (by omega) (by omega) ‹nF p fd fh = true›; exact no_tf f1.2.1 (by assumption))
                                      ·
                                       exfalso
                                       (have l1 := hoursL_len p (nD p fd fh) true; omega)
                                     ·
                                      exfalso
                                      (have g6 := inB_iff.1 ‹inB swell _ _ = true›; omega)
                                 | false =>
                                   exfalso
                                   (have g2 := inB_iff.1 ‹inB cd 0 _ = true›; have g3 := inB_iff.1 ‹inB ch 0 _ = true›; have g4 := inB_iff.1 ‹inB fd 0 _ = true›; have g5 := inB_iff.1 ‹inB fh 0 _ = true›; have f1 := nx_facts (p := p) (fd := fd) (fh := fh) (by omega) (by omega) ‹nF p fd fh = true›; first | omega | (simp [inB] at *; omega))
                               | false =>
                                 exfalso
                                 (have g2 := inB_iff.1 ‹inB cd 0 _ = true›; have g3 := inB_iff.1 ‹inB ch 0 _ = true›; have g4 := inB_iff.1 ‹inB fd 0 _ = true›; have g5 := inB_iff.1 ‹inB fh 0 _ = true›; have f1 := nx_facts (p := p) (fd := fd) (fh := fh) (by omega) (by omega) ‹nF p fd fh = true›; first | omega | (simp [inB] at *; omega))
                           | false =>
                             exfalso
                             (have g6 := inB_iff.1 ‹inB swell _ _ = true›; exact no_tf (goes_mono (p := p) (d := cd) (h := ch) g6.1 (by assumption)) (by assumption))
                         | false =>
                           have hp25 : AllP (wOpen_p25 B p cd ch swell fd fh) := by
                            try have g2 := inB_iff.1 ‹inB cd 0 _ = true›
                            try have g3 := inB_iff.1 ‹inB ch 0 _ = true›
                            try have g4 := inB_iff.1 ‹inB fd 0 _ = true›
                            try have g5 := inB_iff.1 ‹inB fh 0 _ = true›
                            try have f1 := nx_facts (p := p) (fd := fd) (fh := fh) (by omega) (by omega) ‹nF p fd fh = true›
                            exact ⟨⟨trivial, (by have t_ := rHasH (p) (cd) (ch) (by first | with_reducible assumption | omega | simp_all); rw [q14] at t_; exact t_)⟩, hp9⟩
                           cases q15 : goesB p cd ch (Span.lo (List.getD p.swell cd.toNat default)) with
                           | true =>
                             have hp26 : AllP (wOpen_p26 B p cd ch swell fd fh) := by
                              try have g2 := inB_iff.1 ‹inB cd 0 _ = true›
                              try have g3 := inB_iff.1 ‹inB ch 0 _ = true›
                              try have g4 := inB_iff.1 ‹inB fd 0 _ = true›
                              try have g5 := inB_iff.1 ‹inB fh 0 _ = true›
                              try have f1 := nx_facts (p := p) (fd := fd) (fh := fh) (by omega) (by omega) ‹nF p fd fh = true›
                              exact ⟨⟨trivial, (by have t_ := rHasL (p) (cd) (ch) (by first | with_reducible assumption | omega | simp_all); rw [q15] at t_; exact t_)⟩, hp25⟩
                             by_cases q16 : (fd : Int) < (cd)
                             ·
                              have hp27 : AllP (wOpen_p27 B p cd ch swell fd fh) := by
                               exact ⟨(ltq_t q16), hp26⟩
                              cases q17 : inB (nD p fd fh) 0 ((↑p.swell.length : Int) - 1) with
                              | true =>
                                cases q18 : inB (nH p fd fh) 0 23 with
                                | true =>
                                  have hp28 : AllP (wOpen_p28 B p cd ch swell fd fh) := by
                                   try have g2 := inB_iff.1 ‹inB cd 0 _ = true›
                                   try have g3 := inB_iff.1 ‹inB ch 0 _ = true›
                                   try have g4 := inB_iff.1 ‹inB fd 0 _ = true›
                                   try have g5 := inB_iff.1 ‹inB fh 0 _ = true›
                                   try have f1 := nx_facts (p := p) (fd := fd) (fh := fh) (by omega) (by omega) ‹nF p fd fh = true›
                                   exact ⟨⟨trivial, (by have t_ := rCall (p) (nD p fd fh) (nH p fd fh); rw [q17, q18] at t_; exact t_)⟩, hp27⟩
                                  by_cases q19 : (nD p fd fh : Int) < (fd)
                                  ·
                                   exfalso
                                   (have g2 := inB_iff.1 ‹inB cd 0 _ = true›; have g3 := inB_iff.1 ‹inB ch 0 _ = true›; have g4 := inB_iff.1 ‹inB fd 0 _ = true›; have g5 := inB_iff.1 ‹inB fh 0 _ = true›; have f1 := nx_facts (p := p) (fd := fd) (fh := fh) (by omega) (by omega) ‹nF p fd fh = true›; first | omega | (simp [inB] at *; omega))
                                  ·
                                   have hp29 : AllP (wOpen_p29 B p cd ch swell fd fh) := by
                                    exact ⟨(ltq_f (Int.not_lt.1 q19)), hp28⟩
                                   by_cases q20 : (nD p fd fh : Int) = (fd)
                                   ·
                                    by_cases q21 : (nH p fd fh : Int) < (fh)
                                    ·
                                     exfalso
                                     (have g2 := inB_iff.1 ‹inB cd 0 _ = true›; have g3 := inB_iff.1 ‹inB ch 0 _ = true›; have g4 := inB_iff.1 ‹inB fd 0 _ = true›; have g5 := inB_iff.1 ‹inB fh 0 _ = true›; have f1 := nx_facts (p := p) (fd := fd) (fh := fh) (by omega) (by omega) ‹nF p fd fh = true›; first | omega | (simp [inB] at *; omega))
                                    ·
                                     by_cases q22 : (cd : Int) < (nD p fd fh)
                                     ·
                                      exfalso
                                      (have g6 := inB_iff.1 ‹inB swell _ _ = true›; omega)
                                     ·
                                      by_cases q23 : (cd : Int) = (nD p fd fh)
                                      ·
                                       exfalso
                                       (have g6 := inB_iff.1 ‹inB swell _ _ = true›; omega)
                                      ·
                                       by_cases q24 : ((↑(List.length (hoursL p (nD p fd fh) true 0)) : Int) : Int) ≤ (24)
                                       ·
                                        cases q25 : goesB p (nD p fd fh) (nH p fd fh) (Span.hi (List.getD p.swell (Int.toNat (nD p fd fh)) default)) with
                                        | true =>
                                          try have g2 := inB_iff.1 ‹inB cd 0 _ = true›
                                          try have g3 := inB_iff.1 ‹inB ch 0 _ = true›
                                          try have g4 := inB_iff.1 ‹inB fd 0 _ = true›
                                          try have g5 := inB_iff.1 ‹inB fh 0 _ = true›
                                          try have f1 := nx_facts (p := p) (fd := fd) (fh := fh) (by omega) (by omega) ‹nF p fd fh = true›
                                          exact (GoE.endsT okF hJ mixed_ok GoE.start (wOpen_s8 B p cd ch swell fd fh)
                                           ⟨⟨trivial, known⟩, ⟨⟨trivial, (by have t_ := rHasH (p) (nD p fd fh) (nH p fd fh) (by first | with_reducible assumption | omega | simp_all); rw [q25] at t_; exact t_)⟩, ⟨(nltq_t q24), ⟨(eqq_f q23), ⟨(ltq_f (Int.not_lt.1 q22)), ⟨⟨trivial, (by have t_ := pHours (p) (nD p fd fh); rw [q2, q17] at t_; exact t_)⟩, ⟨(ltq_f (Int.not_lt.1 q21)), ⟨(eqq_t q20), hp29⟩⟩⟩⟩⟩⟩⟩⟩).cast rfl
                                        | false =>
                                          exfalso
                                          (have g2 := inB_iff.1 ‹inB cd 0 _ = true›; have g3 := inB_iff.1 ‹inB ch 0 _ = true›; have g4 := inB_iff.1 ‹inB fd 0 _ = true›; have g5 := inB_iff.1 ‹inB fh 0 _ = true›; have f1 := nx_facts (p := p) (fd := fd) (fh := fh) (by omega) (by omega) ‹nF p fd fh = true›; exact no_tf f1.2.1 (by assumption))
                                       ·
                                        exfalso
                                        (have l1 := hoursL_len p (nD p fd fh) true; omega)
                                   ·
                                    have hp30 : AllP (wOpen_p30 B p cd ch swell fd fh) := by
                                     try have g2 := inB_iff.1 ‹inB cd 0 _ = true›
                                     try have g3 := inB_iff.1 ‹inB ch 0 _ = true›
                                     try have g4 := inB_iff.1 ‹inB fd 0 _ = true›
                                     try have g5 := inB_iff.1 ‹inB fh 0 _ = true›
                                     try have f1 := nx_facts (p := p) (fd := fd) (fh := fh) (by omega) (by omega) ‹nF p fd fh = true›
                                     exact ⟨⟨trivial, (by have t_ := pHours (p) (nD p fd fh); rw [q2, q17] at t_; exact t_)⟩, ⟨(eqq_f q20), hp29⟩⟩
                                    by_cases q21 : (cd : Int) < (nD p fd fh)
                                    ·
                                     by_cases q22 : ((↑(List.length (hoursL p (nD p fd fh) true 0)) : Int) : Int) ≤ (24)
                                     ·
                                      cases q23 : goesB p (nD p fd fh) (nH p fd fh) (Span.hi (List.getD p.swell (Int.toNat (nD p fd fh)) default)) with
                                      | true =>
                                        try have g2 := inB_iff.1 ‹inB cd 0 _ = true›
                                        try have g3 := inB_iff.1 ‹inB ch 0 _ = true›
                                        try have g4 := inB_iff.1 ‹inB fd 0 _ = true›
                                        try have g5 := inB_iff.1 ‹inB fh 0 _ = true›
                                        try have f1 := nx_facts (p := p) (fd := fd) (fh := fh) (by omega) (by omega) ‹nF p fd fh = true›
                                        exact (GoE.endsT okF hJ mixed_ok GoE.start (wOpen_s9 B p cd ch swell fd fh)
                                         ⟨⟨trivial, known⟩, ⟨⟨trivial, (by have t_ := rHasH (p) (nD p fd fh) (nH p fd fh) (by first | with_reducible assumption | omega | simp_all); rw [q23] at t_; exact t_)⟩, ⟨(nltq_t q22), ⟨(ltq_t q21), hp30⟩⟩⟩⟩).cast rfl
                                      | false =>
                                        exfalso
                                        (have g2 := inB_iff.1 ‹inB cd 0 _ = true›; have g3 := inB_iff.1 ‹inB ch 0 _ = true›; have g4 := inB_iff.1 ‹inB fd 0 _ = true›; have g5 := inB_iff.1 ‹inB fh 0 _ = true›; have f1 := nx_facts (p := p) (fd := fd) (fh := fh) (by omega) (by omega) ‹nF p fd fh = true›; exact no_tf f1.2.1 (by assumption))
                                     ·
                                      exfalso
                                      (have l1 := hoursL_len p (nD p fd fh) true; omega)
                                    ·
                                     have hp31 : AllP (wOpen_p31 B p cd ch swell fd fh) := by
                                      exact ⟨(ltq_f (Int.not_lt.1 q21)), hp30⟩
                                     by_cases q22 : (cd : Int) = (nD p fd fh)
                                     ·
                                      have hp32 : AllP (wOpen_p32 B p cd ch swell fd fh) := by
                                       exact ⟨(eqq_t q22), hp31⟩
                                      by_cases q23 : (ch : Int) < (nH p fd fh)
                                      ·
                                       by_cases q24 : ((↑(List.length (hoursL p (nD p fd fh) true 0)) : Int) : Int) ≤ (24)
                                       ·
                                        cases q25 : goesB p (nD p fd fh) (nH p fd fh) (Span.hi (List.getD p.swell (Int.toNat (nD p fd fh)) default)) with
                                        | true =>
                                          try have g2 := inB_iff.1 ‹inB cd 0 _ = true›
                                          try have g3 := inB_iff.1 ‹inB ch 0 _ = true›
                                          try have g4 := inB_iff.1 ‹inB fd 0 _ = true›
                                          try have g5 := inB_iff.1 ‹inB fh 0 _ = true›
                                          try have f1 := nx_facts (p := p) (fd := fd) (fh := fh) (by omega) (by omega) ‹nF p fd fh = true›
                                          exact (GoE.endsT okF hJ mixed_ok GoE.start (wOpen_s10 B p cd ch swell fd fh)
                                           ⟨⟨trivial, known⟩, ⟨⟨trivial, (by have t_ := rHasH (p) (nD p fd fh) (nH p fd fh) (by first | with_reducible assumption | omega | simp_all); rw [q25] at t_; exact t_)⟩, ⟨(nltq_t q24), ⟨(ltq_t q23), hp32⟩⟩⟩⟩).cast rfl
                                        | false =>
                                          exfalso
                                          (have g2 := inB_iff.1 ‹inB cd 0 _ = true›; have g3 := inB_iff.1 ‹inB ch 0 _ = true›; have g4 := inB_iff.1 ‹inB fd 0 _ = true›; have g5 := inB_iff.1 ‹inB fh 0 _ = true›; have f1 := nx_facts (p := p) (fd := fd) (fh := fh) (by omega) (by omega) ‹nF p fd fh = true›; exact no_tf f1.2.1 (by assumption))
                                       ·
                                        exfalso
                                        (have l1 := hoursL_len p (nD p fd fh) true; omega)
                                      ·
                                       by_cases q24 : ((↑(List.length (hoursL p (nD p fd fh) true 0)) : Int) : Int) ≤ (24)
                                       ·
                                        cases q25 : goesB p (nD p fd fh) (nH p fd fh) (Span.hi (List.getD p.swell (Int.toNat (nD p fd fh)) default)) with
                                        | true =>
                                          try have g2 := inB_iff.1 ‹inB cd 0 _ = true›
                                          try have g3 := inB_iff.1 ‹inB ch 0 _ = true›
                                          try have g4 := inB_iff.1 ‹inB fd 0 _ = true›
                                          try have g5 := inB_iff.1 ‹inB fh 0 _ = true›
                                          try have f1 := nx_facts (p := p) (fd := fd) (fh := fh) (by omega) (by omega) ‹nF p fd fh = true›
                                          exact (GoE.endsT okF hJ mixed_ok GoE.start (wOpen_s11 B p cd ch swell fd fh)
                                           ⟨⟨trivial, known⟩, ⟨⟨trivial, (by have t_ := rHasH (p) (nD p fd fh) (nH p fd fh) (by first | with_reducible assumption | omega | simp_all); rw [q25] at t_; exact t_)⟩, ⟨(nltq_t q24), ⟨(ltq_f (Int.not_lt.1 q23)), hp32⟩⟩⟩⟩).cast rfl
                                        | false =>
                                          exfalso
                                          (have g2 := inB_iff.1 ‹inB cd 0 _ = true›; have g3 := inB_iff.1 ‹inB ch 0 _ = true›; have g4 := inB_iff.1 ‹inB fd 0 _ = true›; have g5 := inB_iff.1 ‹inB fh 0 _ = true›; have f1 := nx_facts (p := p) (fd := fd) (fh := fh) (by omega) (by omega) ‹nF p fd fh = true›; exact no_tf f1.2.1 (by assumption))
                                       ·
                                        exfalso
                                        (have l1 := hoursL_len p (nD p fd fh) true; omega)
                                     ·
                                      by_cases q23 : ((↑(List.length (hoursL p (nD p fd fh) true 0)) : Int) : Int) ≤ (24)
                                      ·
                                       cases q24 : goesB p (nD p fd fh) (nH p fd fh) (Span.hi (List.getD p.swell (Int.toNat (nD p fd fh)) default)) with
                                       | true =>
                                         try have g2 := inB_iff.1 ‹inB cd 0 _ = true›
                                         try have g3 := inB_iff.1 ‹inB ch 0 _ = true›
                                         try have g4 := inB_iff.1 ‹inB fd 0 _ = true›
                                         try have g5 := inB_iff.1 ‹inB fh 0 _ = true›
                                         try have f1 := nx_facts (p := p) (fd := fd) (fh := fh) (by omega) (by omega) ‹nF p fd fh = true›
                                         exact (GoE.endsT okF hJ mixed_ok GoE.start (wOpen_s12 B p cd ch swell fd fh)
                                          ⟨⟨trivial, known⟩, ⟨⟨trivial, (by have t_ := rHasH (p) (nD p fd fh) (nH p fd fh) (by first | with_reducible assumption | omega | simp_all); rw [q24] at t_; exact t_)⟩, ⟨(nltq_t q23), ⟨(eqq_f q22), hp31⟩⟩⟩⟩).cast rfl
                                       | false =>
                                         exfalso
                                         (have g2 := inB_iff.1 ‹inB cd 0 _ = true›; have g3 := inB_iff.1 ‹inB ch 0 _ = true›; have g4 := inB_iff.1 ‹inB fd 0 _ = true›; have g5 := inB_iff.1 ‹inB fh 0 _ = true›; have f1 := nx_facts (p := p) (fd := fd) (fh := fh) (by omega) (by omega) ‹nF p fd fh = true›; exact no_tf f1.2.1 (by assumption))
                                      ·
                                       exfalso
                                       (have l1 := hoursL_len p (nD p fd fh) true; omega)
                                | false =>
                                  exfalso
                                  (have g2 := inB_iff.1 ‹inB cd 0 _ = true›; have g3 := inB_iff.1 ‹inB ch 0 _ = true›; have g4 := inB_iff.1 ‹inB fd 0 _ = true›; have g5 := inB_iff.1 ‹inB fh 0 _ = true›; have f1 := nx_facts (p := p) (fd := fd) (fh := fh) (by omega) (by omega) ‹nF p fd fh = true›; first | omega | (simp [inB] at *; omega))
                              | false =>
                                exfalso
                                (have g2 := inB_iff.1 ‹inB cd 0 _ = true›; have g3 := inB_iff.1 ‹inB ch 0 _ = true›; have g4 := inB_iff.1 ‹inB fd 0 _ = true›; have g5 := inB_iff.1 ‹inB fh 0 _ = true›; have f1 := nx_facts (p := p) (fd := fd) (fh := fh) (by omega) (by omega) ‹nF p fd fh = true›; first | omega | (simp [inB] at *; omega))
                             ·
                              have hp33 : AllP (wOpen_p33 B p cd ch swell fd fh) := by
                               exact ⟨(ltq_f (Int.not_lt.1 q16)), hp26⟩
                              by_cases q17 : (cd : Int) = (fd)
                              ·
                               have hp34 : AllP (wOpen_p34 B p cd ch swell fd fh) := by
                                exact ⟨(eqq_t q17), hp33⟩
                               by_cases q18 : (fh : Int) ≤ (ch)
                               ·
                                have hp35 : AllP (wOpen_p35 B p cd ch swell fd fh) := by
                                 exact ⟨(nltq_t q18), hp34⟩
                                cases q19 : inB (nD p fd fh) 0 ((↑p.swell.length : Int) - 1) with
                                | true =>
                                  cases q20 : inB (nH p fd fh) 0 23 with
                                  | true =>
                                    have hp36 : AllP (wOpen_p36 B p cd ch swell fd fh) := by
                                     try have g2 := inB_iff.1 ‹inB cd 0 _ = true›
                                     try have g3 := inB_iff.1 ‹inB ch 0 _ = true›
                                     try have g4 := inB_iff.1 ‹inB fd 0 _ = true›
                                     try have g5 := inB_iff.1 ‹inB fh 0 _ = true›
                                     try have f1 := nx_facts (p := p) (fd := fd) (fh := fh) (by omega) (by omega) ‹nF p fd fh = true›
                                     exact ⟨⟨trivial, (by have t_ := rCall (p) (nD p fd fh) (nH p fd fh); rw [q19, q20] at t_; exact t_)⟩, hp35⟩
                                    by_cases q21 : (nD p fd fh : Int) < (fd)
                                    ·
                                     exfalso
                                     (have g2 := inB_iff.1 ‹inB cd 0 _ = true›; have g3 := inB_iff.1 ‹inB ch 0 _ = true›; have g4 := inB_iff.1 ‹inB fd 0 _ = true›; have g5 := inB_iff.1 ‹inB fh 0 _ = true›; have f1 := nx_facts (p := p) (fd := fd) (fh := fh) (by omega) (by omega) ‹nF p fd fh = true›; first | omega | (simp [inB] at *; omega))
                                    ·
                                     have hp37 : AllP (wOpen_p37 B p cd ch swell fd fh) := by
                                      exact ⟨(ltq_f (Int.not_lt.1 q21)), hp36⟩
                                     by_cases q22 : (nD p fd fh : Int) = (fd)
                                     ·
                                      have hp38 : AllP (wOpen_p38 B p cd ch swell fd fh) := by
                                       exact ⟨(eqq_t q22), hp37⟩
                                      by_cases q23 : (nH p fd fh : Int) < (fh)
                                      ·
                                       exfalso
                                       (have g2 := inB_iff.1 ‹inB cd 0 _ = true›; have g3 := inB_iff.1 ‹inB ch 0 _ = true›; have g4 := inB_iff.1 ‹inB fd 0 _ = true›; have g5 := inB_iff.1 ‹inB fh 0 _ = true›; have f1 := nx_facts (p := p) (fd := fd) (fh := fh) (by omega) (by omega) ‹nF p fd fh = true›; first | omega | (simp [inB] at *; omega))
                                      ·
                                       have hp39 : AllP (wOpen_p39 B p cd ch swell fd fh) := by
                                        try have g2 := inB_iff.1 ‹inB cd 0 _ = true›
                                        try have g3 := inB_iff.1 ‹inB ch 0 _ = true›
                                        try have g4 := inB_iff.1 ‹inB fd 0 _ = true›
                                        try have g5 := inB_iff.1 ‹inB fh 0 _ = true›
                                        try have f1 := nx_facts (p := p) (fd := fd) (fh := fh) (by omega) (by omega) ‹nF p fd fh = true›
                                        exact ⟨⟨trivial, (by have t_ := pHours (p) (nD p fd fh); rw [q2, q19] at t_; exact t_)⟩, ⟨(ltq_f (Int.not_lt.1 q23)), hp38⟩⟩
                                       by_cases q24 : (cd : Int) < (nD p fd fh)
                                       ·
                                        exfalso
                                        (have g6 := inB_iff.1 ‹inB swell _ _ = true›; omega)
                                       ·
                                        have hp40 : AllP (wOpen_p40 B p cd ch swell fd fh) := by
                                         exact ⟨(ltq_f (Int.not_lt.1 q24)), hp39⟩
                                        by_cases q25 : (cd : Int) = (nD p fd fh)
                                        ·
                                         have hp41 : AllP (wOpen_p41 B p cd ch swell fd fh) := by
                                          exact ⟨(eqq_t q25), hp40⟩
                                         by_cases q26 : (ch : Int) < (nH p fd fh)
                                         ·
                                          by_cases q27 : ((↑(List.length (hoursL p (nD p fd fh) true 0)) : Int) : Int) ≤ (24)
                                          ·
                                           cases q28 : goesB p (nD p fd fh) (nH p fd fh) (Span.hi (List.getD p.swell (Int.toNat (nD p fd fh)) default)) with
                                           | true =>
                                             try have g2 := inB_iff.1 ‹inB cd 0 _ = true›
                                             try have g3 := inB_iff.1 ‹inB ch 0 _ = true›
                                             try have g4 := inB_iff.1 ‹inB fd 0 _ = true›
                                             try have g5 := inB_iff.1 ‹inB fh 0 _ = true›
                                             try have f1 := nx_facts (p := p) (fd := fd) (fh := fh) (by omega) (by omega) ‹nF p fd fh = true›
                                             exact (GoE.endsT okF hJ mixed_ok GoE.start (wOpen_s13 B p cd ch swell fd fh)
                                              ⟨⟨trivial, known⟩, ⟨⟨trivial, (by have t_ := rHasH (p) (nD p fd fh) (nH p fd fh) (by first | with_reducible assumption | omega | simp_all); rw [q28] at t_; exact t_)⟩, ⟨(nltq_t q27), ⟨(ltq_t q26), hp41⟩⟩⟩⟩).cast rfl
                                           | false =>
                                             exfalso
                                             (have g2 := inB_iff.1 ‹inB cd 0 _ = true›; have g3 := inB_iff.1 ‹inB ch 0 _ = true›; have g4 := inB_iff.1 ‹inB fd 0 _ = true›; have g5 := inB_iff.1 ‹inB fh 0 _ = true›; have f1 := nx_facts (p := p) (fd := fd) (fh := fh) (by omega) (by omega) ‹nF p fd fh = true›; exact no_tf f1.2.1 (by assumption))
                                          ·
                                           exfalso
                                           (have l1 := hoursL_len p (nD p fd fh) true; omega)
                                         ·
                                          by_cases q27 : ((↑(List.length (hoursL p (nD p fd fh) true 0)) : Int) : Int) ≤ (24)
                                          ·
                                           cases q28 : goesB p (nD p fd fh) (nH p fd fh) (Span.hi (List.getD p.swell (Int.toNat (nD p fd fh)) default)) with
                                           | true =>
                                             try have g2 := inB_iff.1 ‹inB cd 0 _ = true›
                                             try have g3 := inB_iff.1 ‹inB ch 0 _ = true›
                                             try have g4 := inB_iff.1 ‹inB fd 0 _ = true›
                                             try have g5 := inB_iff.1 ‹inB fh 0 _ = true›
                                             try have f1 := nx_facts (p := p) (fd := fd) (fh := fh) (by omega) (by omega) ‹nF p fd fh = true›
                                             exact (GoE.endsT okF hJ mixed_ok GoE.start (wOpen_s14 B p cd ch swell fd fh)
                                              ⟨⟨trivial, known⟩, ⟨⟨trivial, (by have t_ := rHasH (p) (nD p fd fh) (nH p fd fh) (by first | with_reducible assumption | omega | simp_all); rw [q28] at t_; exact t_)⟩, ⟨(nltq_t q27), ⟨(ltq_f (Int.not_lt.1 q26)), hp41⟩⟩⟩⟩).cast rfl
                                           | false =>
                                             exfalso
                                             (have g2 := inB_iff.1 ‹inB cd 0 _ = true›; have g3 := inB_iff.1 ‹inB ch 0 _ = true›; have g4 := inB_iff.1 ‹inB fd 0 _ = true›; have g5 := inB_iff.1 ‹inB fh 0 _ = true›; have f1 := nx_facts (p := p) (fd := fd) (fh := fh) (by omega) (by omega) ‹nF p fd fh = true›; exact no_tf f1.2.1 (by assumption))
                                          ·
                                           exfalso
                                           (have l1 := hoursL_len p (nD p fd fh) true; omega)
                                        ·
                                         exfalso
                                         (have g6 := inB_iff.1 ‹inB swell _ _ = true›; omega)
                                     ·
                                      by_cases q23 : (cd : Int) < (nD p fd fh)
                                      ·
                                       by_cases q24 : ((↑(List.length (hoursL p (nD p fd fh) true 0)) : Int) : Int) ≤ (24)
                                       ·
                                        cases q25 : goesB p (nD p fd fh) (nH p fd fh) (Span.hi (List.getD p.swell (Int.toNat (nD p fd fh)) default)) with
                                        | true =>
                                          try have g2 := inB_iff.1 ‹inB cd 0 _ = true›
                                          try have g3 := inB_iff.1 ‹inB ch 0 _ = true›
                                          try have g4 := inB_iff.1 ‹inB fd 0 _ = true›
                                          try have g5 := inB_iff.1 ‹inB fh 0 _ = true›
                                          try have f1 := nx_facts (p := p) (fd := fd) (fh := fh) (by omega) (by omega) ‹nF p fd fh = true›
                                          exact (GoE.endsT okF hJ mixed_ok GoE.start (wOpen_s15 B p cd ch swell fd fh)
                                           ⟨⟨trivial, known⟩, ⟨⟨trivial, (by have t_ := rHasH (p) (nD p fd fh) (nH p fd fh) (by first | with_reducible assumption | omega | simp_all); rw [q25] at t_; exact t_)⟩, ⟨(nltq_t q24), ⟨(ltq_t q23), ⟨⟨trivial, (by have t_ := pHours (p) (nD p fd fh); rw [q2, q19] at t_; exact t_)⟩, ⟨(eqq_f q22), hp37⟩⟩⟩⟩⟩⟩).cast rfl
                                        | false =>
                                          exfalso
                                          (have g2 := inB_iff.1 ‹inB cd 0 _ = true›; have g3 := inB_iff.1 ‹inB ch 0 _ = true›; have g4 := inB_iff.1 ‹inB fd 0 _ = true›; have g5 := inB_iff.1 ‹inB fh 0 _ = true›; have f1 := nx_facts (p := p) (fd := fd) (fh := fh) (by omega) (by omega) ‹nF p fd fh = true›; exact no_tf f1.2.1 (by assumption))
                                       ·
                                        exfalso
                                        (have l1 := hoursL_len p (nD p fd fh) true; omega)
                                      ·
                                       exfalso
                                       (have g6 := inB_iff.1 ‹inB swell _ _ = true›; omega)
                                  | false =>
                                    exfalso
                                    (have g2 := inB_iff.1 ‹inB cd 0 _ = true›; have g3 := inB_iff.1 ‹inB ch 0 _ = true›; have g4 := inB_iff.1 ‹inB fd 0 _ = true›; have g5 := inB_iff.1 ‹inB fh 0 _ = true›; have f1 := nx_facts (p := p) (fd := fd) (fh := fh) (by omega) (by omega) ‹nF p fd fh = true›; first | omega | (simp [inB] at *; omega))
                                | false =>
                                  exfalso
                                  (have g2 := inB_iff.1 ‹inB cd 0 _ = true›; have g3 := inB_iff.1 ‹inB ch 0 _ = true›; have g4 := inB_iff.1 ‹inB fd 0 _ = true›; have g5 := inB_iff.1 ‹inB fh 0 _ = true›; have f1 := nx_facts (p := p) (fd := fd) (fh := fh) (by omega) (by omega) ‹nF p fd fh = true›; first | omega | (simp [inB] at *; omega))
                               ·
                                have hp42 : AllP (wOpen_p42 B p cd ch swell fd fh) := by
                                 exact ⟨(nltq_f (Int.not_le.1 q18)), hp34⟩
                                cases q19 : inB (nD p fd fh) 0 ((↑p.swell.length : Int) - 1) with
                                | true =>
                                  cases q20 : inB (nH p fd fh) 0 23 with
                                  | true =>
                                    have hp43 : AllP (wOpen_p43 B p cd ch swell fd fh) := by
                                     try have g2 := inB_iff.1 ‹inB cd 0 _ = true›
                                     try have g3 := inB_iff.1 ‹inB ch 0 _ = true›
                                     try have g4 := inB_iff.1 ‹inB fd 0 _ = true›
                                     try have g5 := inB_iff.1 ‹inB fh 0 _ = true›
                                     try have f1 := nx_facts (p := p) (fd := fd) (fh := fh) (by omega) (by omega) ‹nF p fd fh = true›
                                     exact ⟨⟨trivial, (by have t_ := rCall (p) (nD p fd fh) (nH p fd fh); rw [q19, q20] at t_; exact t_)⟩, hp42⟩
                                    by_cases q21 : (nD p fd fh : Int) < (fd)
                                    ·
                                     exfalso
                                     (have g2 := inB_iff.1 ‹inB cd 0 _ = true›; have g3 := inB_iff.1 ‹inB ch 0 _ = true›; have g4 := inB_iff.1 ‹inB fd 0 _ = true›; have g5 := inB_iff.1 ‹inB fh 0 _ = true›; have f1 := nx_facts (p := p) (fd := fd) (fh := fh) (by omega) (by omega) ‹nF p fd fh = true›; first | omega | (simp [inB] at *; omega))
                                    ·
                                     have hp44 : AllP (wOpen_p44 B p cd ch swell fd fh) := by
                                      exact ⟨(ltq_f (Int.not_lt.1 q21)), hp43⟩
                                     by_cases q22 : (nD p fd fh : Int) = (fd)
                                     ·
                                      by_cases q23 : (nH p fd fh : Int) < (fh)
                                      ·
                                       exfalso
                                       (have g2 := inB_iff.1 ‹inB cd 0 _ = true›; have g3 := inB_iff.1 ‹inB ch 0 _ = true›; have g4 := inB_iff.1 ‹inB fd 0 _ = true›; have g5 := inB_iff.1 ‹inB fh 0 _ = true›; have f1 := nx_facts (p := p) (fd := fd) (fh := fh) (by omega) (by omega) ‹nF p fd fh = true›; first | omega | (simp [inB] at *; omega))
                                      ·
                                       by_cases q24 : (cd : Int) < (nD p fd fh)
                                       ·
                                        exfalso
                                        (have g6 := inB_iff.1 ‹inB swell _ _ = true›; omega)
                                       ·
                                        by_cases q25 : (cd : Int) = (nD p fd fh)
                                        ·
                                         by_cases q26 : (ch : Int) < (nH p fd fh)
                                         ·
                                          by_cases q27 : ((↑(List.length (hoursL p (nD p fd fh) true 0)) : Int) : Int) ≤ (24)
                                          ·
                                           cases q28 : goesB p (nD p fd fh) (nH p fd fh) (Span.hi (List.getD p.swell (Int.toNat (nD p fd fh)) default)) with
                                           | true =>
                                             try have g2 := inB_iff.1 ‹inB cd 0 _ = true›
                                             try have g3 := inB_iff.1 ‹inB ch 0 _ = true›
                                             try have g4 := inB_iff.1 ‹inB fd 0 _ = true›
                                             try have g5 := inB_iff.1 ‹inB fh 0 _ = true›
                                             try have f1 := nx_facts (p := p) (fd := fd) (fh := fh) (by omega) (by omega) ‹nF p fd fh = true›
                                             exact (GoE.endsT okF hJ mixed_ok GoE.start (wOpen_s16 B p cd ch swell fd fh)
                                              ⟨⟨trivial, known⟩, ⟨⟨trivial, (by have t_ := rHasH (p) (nD p fd fh) (nH p fd fh) (by first | with_reducible assumption | omega | simp_all); rw [q28] at t_; exact t_)⟩, ⟨(nltq_t q27), ⟨(ltq_t q26), ⟨(eqq_t q25), ⟨(ltq_f (Int.not_lt.1 q24)), ⟨⟨trivial, (by have t_ := pHours (p) (nD p fd fh); rw [q2, q19] at t_; exact t_)⟩, ⟨(ltq_f (Int.not_lt.1 q23)), ⟨(eqq_t q22), hp44⟩⟩⟩⟩⟩⟩⟩⟩⟩).cast rfl
                                           | false =>
                                             exfalso
                                             (have g2 := inB_iff.1 ‹inB cd 0 _ = true›; have g3 := inB_iff.1 ‹inB ch 0 _ = true›; have g4 := inB_iff.1 ‹inB fd 0 _ = true›; have g5 := inB_iff.1 ‹inB fh 0 _ = true›; have f1 := nx_facts (p := p) (fd := fd) (fh := fh) (by omega) (by omega) ‹nF p fd fh = true›; exact no_tf f1.2.1 (by assumption))
                                          ·
                                           exfalso
                                           (have l1 := hoursL_len p (nD p fd fh) true; omega)
                                         ·
                                          exfalso
                                          (have g6 := inB_iff.1 ‹inB swell _ _ = true›; omega)
                                        ·
                                         exfalso
                                         (have g6 := inB_iff.1 ‹inB swell _ _ = true›; omega)
                                     ·
                                      by_cases q23 : (cd : Int) < (nD p fd fh)
                                      ·
                                       by_cases q24 : ((↑(List.length (hoursL p (nD p fd fh) true 0)) : Int) : Int) ≤ (24)
                                       ·
                                        cases q25 : goesB p (nD p fd fh) (nH p fd fh) (Span.hi (List.getD p.swell (Int.toNat (nD p fd fh)) default)) with
                                        | true =>
                                          try have g2 := inB_iff.1 ‹inB cd 0 _ = true›
                                          try have g3 := inB_iff.1 ‹inB ch 0 _ = true›
                                          try have g4 := inB_iff.1 ‹inB fd 0 _ = true›
                                          try have g5 := inB_iff.1 ‹inB fh 0 _ = true›
                                          try have f1 := nx_facts (p := p) (fd := fd) (fh := fh) (by omega) (by omega) ‹nF p fd fh = true›
                                          exact (GoE.endsT okF hJ mixed_ok GoE.start (wOpen_s17 B p cd ch swell fd fh)
                                           ⟨⟨trivial, known⟩, ⟨⟨trivial, (by have t_ := rHasH (p) (nD p fd fh) (nH p fd fh) (by first | with_reducible assumption | omega | simp_all); rw [q25] at t_; exact t_)⟩, ⟨(nltq_t q24), ⟨(ltq_t q23), ⟨⟨trivial, (by have t_ := pHours (p) (nD p fd fh); rw [q2, q19] at t_; exact t_)⟩, ⟨(eqq_f q22), hp44⟩⟩⟩⟩⟩⟩).cast rfl
                                        | false =>
                                          exfalso
                                          (have g2 := inB_iff.1 ‹inB cd 0 _ = true›; have g3 := inB_iff.1 ‹inB ch 0 _ = true›; have g4 := inB_iff.1 ‹inB fd 0 _ = true›; have g5 := inB_iff.1 ‹inB fh 0 _ = true›; have f1 := nx_facts (p := p) (fd := fd) (fh := fh) (by omega) (by omega) ‹nF p fd fh = true›; exact no_tf f1.2.1 (by assumption))
                                       ·
                                        exfalso
                                        (have l1 := hoursL_len p (nD p fd fh) true; omega)
                                      ·
                                       exfalso
                                       (have g6 := inB_iff.1 ‹inB swell _ _ = true›; omega)
                                  | false =>
                                    exfalso
                                    (have g2 := inB_iff.1 ‹inB cd 0 _ = true›; have g3 := inB_iff.1 ‹inB ch 0 _ = true›; have g4 := inB_iff.1 ‹inB fd 0 _ = true›; have g5 := inB_iff.1 ‹inB fh 0 _ = true›; have f1 := nx_facts (p := p) (fd := fd) (fh := fh) (by omega) (by omega) ‹nF p fd fh = true›; first | omega | (simp [inB] at *; omega))
                                | false =>
                                  exfalso
                                  (have g2 := inB_iff.1 ‹inB cd 0 _ = true›; have g3 := inB_iff.1 ‹inB ch 0 _ = true›; have g4 := inB_iff.1 ‹inB fd 0 _ = true›; have g5 := inB_iff.1 ‹inB fh 0 _ = true›; have f1 := nx_facts (p := p) (fd := fd) (fh := fh) (by omega) (by omega) ‹nF p fd fh = true›; first | omega | (simp [inB] at *; omega))
                              ·
                               have hp45 : AllP (wOpen_p45 B p cd ch swell fd fh) := by
                                exact ⟨(eqq_f q17), hp33⟩
                               cases q18 : inB (nD p fd fh) 0 ((↑p.swell.length : Int) - 1) with
                               | true =>
                                 cases q19 : inB (nH p fd fh) 0 23 with
                                 | true =>
                                   have hp46 : AllP (wOpen_p46 B p cd ch swell fd fh) := by
                                    try have g2 := inB_iff.1 ‹inB cd 0 _ = true›
                                    try have g3 := inB_iff.1 ‹inB ch 0 _ = true›
                                    try have g4 := inB_iff.1 ‹inB fd 0 _ = true›
                                    try have g5 := inB_iff.1 ‹inB fh 0 _ = true›
                                    try have f1 := nx_facts (p := p) (fd := fd) (fh := fh) (by omega) (by omega) ‹nF p fd fh = true›
                                    exact ⟨⟨trivial, (by have t_ := rCall (p) (nD p fd fh) (nH p fd fh); rw [q18, q19] at t_; exact t_)⟩, hp45⟩
                                   by_cases q20 : (nD p fd fh : Int) < (fd)
                                   ·
                                    exfalso
                                    (have g2 := inB_iff.1 ‹inB cd 0 _ = true›; have g3 := inB_iff.1 ‹inB ch 0 _ = true›; have g4 := inB_iff.1 ‹inB fd 0 _ = true›; have g5 := inB_iff.1 ‹inB fh 0 _ = true›; have f1 := nx_facts (p := p) (fd := fd) (fh := fh) (by omega) (by omega) ‹nF p fd fh = true›; first | omega | (simp [inB] at *; omega))
                                   ·
                                    have hp47 : AllP (wOpen_p47 B p cd ch swell fd fh) := by
                                     exact ⟨(ltq_f (Int.not_lt.1 q20)), hp46⟩
                                    by_cases q21 : (nD p fd fh : Int) = (fd)
                                    ·
                                     by_cases q22 : (nH p fd fh : Int) < (fh)
                                     ·
                                      exfalso
                                      (have g2 := inB_iff.1 ‹inB cd 0 _ = true›; have g3 := inB_iff.1 ‹inB ch 0 _ = true›; have g4 := inB_iff.1 ‹inB fd 0 _ = true›; have g5 := inB_iff.1 ‹inB fh 0 _ = true›; have f1 := nx_facts (p := p) (fd := fd) (fh := fh) (by omega) (by omega) ‹nF p fd fh = true›; first | omega | (simp [inB] at *; omega))
                                     ·
                                      by_cases q23 : (cd : Int) < (nD p fd fh)
                                      ·
                                       by_cases q24 : ((↑(List.length (hoursL p (nD p fd fh) true 0)) : Int) : Int) ≤ (24)
                                       ·
                                        cases q25 : goesB p (nD p fd fh) (nH p fd fh) (Span.hi (List.getD p.swell (Int.toNat (nD p fd fh)) default)) with
                                        | true =>
                                          try have g2 := inB_iff.1 ‹inB cd 0 _ = true›
                                          try have g3 := inB_iff.1 ‹inB ch 0 _ = true›
                                          try have g4 := inB_iff.1 ‹inB fd 0 _ = true›
                                          try have g5 := inB_iff.1 ‹inB fh 0 _ = true›
                                          try have f1 := nx_facts (p := p) (fd := fd) (fh := fh) (by omega) (by omega) ‹nF p fd fh = true›
                                          exact (GoE.endsT okF hJ mixed_ok GoE.start (wOpen_s18 B p cd ch swell fd fh)
                                           ⟨⟨trivial, known⟩, ⟨⟨trivial, (by have t_ := rHasH (p) (nD p fd fh) (nH p fd fh) (by first | with_reducible assumption | omega | simp_all); rw [q25] at t_; exact t_)⟩, ⟨(nltq_t q24), ⟨(ltq_t q23), ⟨⟨trivial, (by have t_ := pHours (p) (nD p fd fh); rw [q2, q18] at t_; exact t_)⟩, ⟨(ltq_f (Int.not_lt.1 q22)), ⟨(eqq_t q21), hp47⟩⟩⟩⟩⟩⟩⟩).cast rfl
                                        | false =>
                                          exfalso
                                          (have g2 := inB_iff.1 ‹inB cd 0 _ = true›; have g3 := inB_iff.1 ‹inB ch 0 _ = true›; have g4 := inB_iff.1 ‹inB fd 0 _ = true›; have g5 := inB_iff.1 ‹inB fh 0 _ = true›; have f1 := nx_facts (p := p) (fd := fd) (fh := fh) (by omega) (by omega) ‹nF p fd fh = true›; exact no_tf f1.2.1 (by assumption))
                                       ·
                                        exfalso
                                        (have l1 := hoursL_len p (nD p fd fh) true; omega)
                                      ·
                                       exfalso
                                       (have g6 := inB_iff.1 ‹inB swell _ _ = true›; omega)
                                    ·
                                     by_cases q22 : (cd : Int) < (nD p fd fh)
                                     ·
                                      by_cases q23 : ((↑(List.length (hoursL p (nD p fd fh) true 0)) : Int) : Int) ≤ (24)
                                      ·
                                       cases q24 : goesB p (nD p fd fh) (nH p fd fh) (Span.hi (List.getD p.swell (Int.toNat (nD p fd fh)) default)) with
                                       | true =>
                                         try have g2 := inB_iff.1 ‹inB cd 0 _ = true›
                                         try have g3 := inB_iff.1 ‹inB ch 0 _ = true›
                                         try have g4 := inB_iff.1 ‹inB fd 0 _ = true›
                                         try have g5 := inB_iff.1 ‹inB fh 0 _ = true›
                                         try have f1 := nx_facts (p := p) (fd := fd) (fh := fh) (by omega) (by omega) ‹nF p fd fh = true›
                                         exact (GoE.endsT okF hJ mixed_ok GoE.start (wOpen_s19 B p cd ch swell fd fh)
                                          ⟨⟨trivial, known⟩, ⟨⟨trivial, (by have t_ := rHasH (p) (nD p fd fh) (nH p fd fh) (by first | with_reducible assumption | omega | simp_all); rw [q24] at t_; exact t_)⟩, ⟨(nltq_t q23), ⟨(ltq_t q22), ⟨⟨trivial, (by have t_ := pHours (p) (nD p fd fh); rw [q2, q18] at t_; exact t_)⟩, ⟨(eqq_f q21), hp47⟩⟩⟩⟩⟩⟩).cast rfl
                                       | false =>
                                         exfalso
                                         (have g2 := inB_iff.1 ‹inB cd 0 _ = true›; have g3 := inB_iff.1 ‹inB ch 0 _ = true›; have g4 := inB_iff.1 ‹inB fd 0 _ = true›; have g5 := inB_iff.1 ‹inB fh 0 _ = true›; have f1 := nx_facts (p := p) (fd := fd) (fh := fh) (by omega) (by omega) ‹nF p fd fh = true›; exact no_tf f1.2.1 (by assumption))
                                      ·
                                       exfalso
                                       (have l1 := hoursL_len p (nD p fd fh) true; omega)
                                     ·
                                      exfalso
                                      (have g6 := inB_iff.1 ‹inB swell _ _ = true›; omega)
                                 | false =>
                                   exfalso
                                   (have g2 := inB_iff.1 ‹inB cd 0 _ = true›; have g3 := inB_iff.1 ‹inB ch 0 _ = true›; have g4 := inB_iff.1 ‹inB fd 0 _ = true›; have g5 := inB_iff.1 ‹inB fh 0 _ = true›; have f1 := nx_facts (p := p) (fd := fd) (fh := fh) (by omega) (by omega) ‹nF p fd fh = true›; first | omega | (simp [inB] at *; omega))
                               | false =>
                                 exfalso
                                 (have g2 := inB_iff.1 ‹inB cd 0 _ = true›; have g3 := inB_iff.1 ‹inB ch 0 _ = true›; have g4 := inB_iff.1 ‹inB fd 0 _ = true›; have g5 := inB_iff.1 ‹inB fh 0 _ = true›; have f1 := nx_facts (p := p) (fd := fd) (fh := fh) (by omega) (by omega) ‹nF p fd fh = true›; first | omega | (simp [inB] at *; omega))
                           | false =>
                             exfalso
                             (have g6 := inB_iff.1 ‹inB swell _ _ = true›; exact no_tf (goes_mono (p := p) (d := cd) (h := ch) g6.1 (by assumption)) (by assumption))
                     | false =>
                       have hp48 : AllP (wOpen_p48 B p cd ch swell fd fh) := by
                        try have g2 := inB_iff.1 ‹inB cd 0 _ = true›
                        try have g3 := inB_iff.1 ‹inB ch 0 _ = true›
                        try have g4 := inB_iff.1 ‹inB fd 0 _ = true›
                        try have g5 := inB_iff.1 ‹inB fh 0 _ = true›
                        try have f1 := nx_facts (p := p) (fd := fd) (fh := fh) (by omega) (by omega) ‹nF p fd fh = true›
                        exact ⟨⟨trivial, (by have t_ := pNext3 (p) (fd) (fh); rw [q2, q5, q6, q11] at t_; exact t_)⟩, hp6⟩
                       by_cases q12 : (24 : Int) < ((↑(List.length (hoursL p cd true 0)) : Int))
                       ·
                        exfalso
                        (have l1 := hoursL_len p cd true; omega)
                       ·
                        have hp49 : AllP (wOpen_p49 B p cd ch swell fd fh) := by
                         exact ⟨(ltq_f (Int.not_lt.1 q12)), hp48⟩
                        by_cases q13 : (24 : Int) < ((↑(List.length (hoursL p cd false 0)) : Int))
                        ·
                         exfalso
                         (have l1 := hoursL_len p cd false; omega)
                        ·
                         have hp50 : AllP (wOpen_p50 B p cd ch swell fd fh) := by
                          exact ⟨(ltq_f (Int.not_lt.1 q13)), hp49⟩
                         cases q14 : goesB p cd ch (Span.hi (List.getD p.swell cd.toNat default)) with
                         | true =>
                           have hp51 : AllP (wOpen_p51 B p cd ch swell fd fh) := by
                            try have g2 := inB_iff.1 ‹inB cd 0 _ = true›
                            try have g3 := inB_iff.1 ‹inB ch 0 _ = true›
                            try have g4 := inB_iff.1 ‹inB fd 0 _ = true›
                            try have g5 := inB_iff.1 ‹inB fh 0 _ = true›
                            try have f1 := nx_facts (p := p) (fd := fd) (fh := fh) (by omega) (by omega) ‹nF p fd fh = true›
                            exact ⟨⟨trivial, (by have t_ := rHasH (p) (cd) (ch) (by first | with_reducible assumption | omega | simp_all); rw [q14] at t_; exact t_)⟩, hp50⟩
                           cases q15 : goesB p cd ch (Span.lo (List.getD p.swell cd.toNat default)) with
                           | true =>
                             have hp52 : AllP (wOpen_p52 B p cd ch swell fd fh) := by
                              try have g2 := inB_iff.1 ‹inB cd 0 _ = true›
                              try have g3 := inB_iff.1 ‹inB ch 0 _ = true›
                              try have g4 := inB_iff.1 ‹inB fd 0 _ = true›
                              try have g5 := inB_iff.1 ‹inB fh 0 _ = true›
                              try have f1 := nx_facts (p := p) (fd := fd) (fh := fh) (by omega) (by omega) ‹nF p fd fh = true›
                              exact ⟨⟨trivial, (by have t_ := rHasL (p) (cd) (ch) (by first | with_reducible assumption | omega | simp_all); rw [q15] at t_; exact t_)⟩, hp51⟩
                             by_cases q16 : (fd : Int) < (cd)
                             ·
                              exfalso
                              (have g2 := inB_iff.1 ‹inB cd 0 _ = true›; have g3 := inB_iff.1 ‹inB ch 0 _ = true›; have g4 := inB_iff.1 ‹inB fd 0 _ = true›; have g5 := inB_iff.1 ‹inB fh 0 _ = true›; have m4 := nx_none (p := p) (fd := fd) (fh := fh) ‹nF p fd fh = false› (d := cd) (h := ch) (by omega) (by omega) (by omega) (by omega) (by omega); exact no_tf (by assumption) m4)
                             ·
                              have hp53 : AllP (wOpen_p53 B p cd ch swell fd fh) := by
                               exact ⟨(ltq_f (Int.not_lt.1 q16)), hp52⟩
                              by_cases q17 : (cd : Int) = (fd)
                              ·
                               by_cases q18 : (fh : Int) ≤ (ch)
                               ·
                                exfalso
                                (have g2 := inB_iff.1 ‹inB cd 0 _ = true›; have g3 := inB_iff.1 ‹inB ch 0 _ = true›; have g4 := inB_iff.1 ‹inB fd 0 _ = true›; have g5 := inB_iff.1 ‹inB fh 0 _ = true›; have m4 := nx_none (p := p) (fd := fd) (fh := fh) ‹nF p fd fh = false› (d := cd) (h := ch) (by omega) (by omega) (by omega) (by omega) (by omega); exact no_tf (by assumption) m4)
                               ·
                                exact (GoE.endsT okF hJ mixed_ok GoE.start (wOpen_s20 B p cd ch swell fd fh)
                                 ⟨⟨trivial, known⟩, ⟨(nltq_f (Int.not_le.1 q18)), ⟨(eqq_t q17), hp53⟩⟩⟩).cast rfl
                              ·
                               exact (GoE.endsT okF hJ mixed_ok GoE.start (wOpen_s21 B p cd ch swell fd fh)
                                ⟨⟨trivial, known⟩, ⟨(eqq_f q17), hp53⟩⟩).cast rfl
                           | false =>
                             exfalso
                             (have g6 := inB_iff.1 ‹inB swell _ _ = true›; exact no_tf (goes_mono (p := p) (d := cd) (h := ch) g6.1 (by assumption)) (by assumption))
                         | false =>
                           have hp54 : AllP (wOpen_p54 B p cd ch swell fd fh) := by
                            try have g2 := inB_iff.1 ‹inB cd 0 _ = true›
                            try have g3 := inB_iff.1 ‹inB ch 0 _ = true›
                            try have g4 := inB_iff.1 ‹inB fd 0 _ = true›
                            try have g5 := inB_iff.1 ‹inB fh 0 _ = true›
                            try have f1 := nx_facts (p := p) (fd := fd) (fh := fh) (by omega) (by omega) ‹nF p fd fh = true›
                            exact ⟨⟨trivial, (by have t_ := rHasH (p) (cd) (ch) (by first | with_reducible assumption | omega | simp_all); rw [q14] at t_; exact t_)⟩, hp50⟩
                           cases q15 : goesB p cd ch (Span.lo (List.getD p.swell cd.toNat default)) with
                           | true =>
                             have hp55 : AllP (wOpen_p55 B p cd ch swell fd fh) := by
                              try have g2 := inB_iff.1 ‹inB cd 0 _ = true›
                              try have g3 := inB_iff.1 ‹inB ch 0 _ = true›
                              try have g4 := inB_iff.1 ‹inB fd 0 _ = true›
                              try have g5 := inB_iff.1 ‹inB fh 0 _ = true›
                              try have f1 := nx_facts (p := p) (fd := fd) (fh := fh) (by omega) (by omega) ‹nF p fd fh = true›
                              exact ⟨⟨trivial, (by have t_ := rHasL (p) (cd) (ch) (by first | with_reducible assumption | omega | simp_all); rw [q15] at t_; exact t_)⟩, hp54⟩
                             by_cases q16 : (fd : Int) < (cd)
                             ·
                              exact (GoE.endsT okF hJ mixed_ok GoE.start (wOpen_s22 B p cd ch swell fd fh)
                               ⟨⟨trivial, known⟩, ⟨(ltq_t q16), hp55⟩⟩).cast rfl
                             ·
                              have hp56 : AllP (wOpen_p56 B p cd ch swell fd fh) := by
                               exact ⟨(ltq_f (Int.not_lt.1 q16)), hp55⟩
                              by_cases q17 : (cd : Int) = (fd)
                              ·
                               have hp57 : AllP (wOpen_p57 B p cd ch swell fd fh) := by
                                exact ⟨(eqq_t q17), hp56⟩
                               by_cases q18 : (fh : Int) ≤ (ch)
                               ·
                                exact (GoE.endsT okF hJ mixed_ok GoE.start (wOpen_s23 B p cd ch swell fd fh)
                                 ⟨⟨trivial, known⟩, ⟨(nltq_t q18), hp57⟩⟩).cast rfl
                               ·
                                exact (GoE.endsT okF hJ mixed_ok GoE.start (wOpen_s24 B p cd ch swell fd fh)
                                 ⟨⟨trivial, known⟩, ⟨(nltq_f (Int.not_le.1 q18)), hp57⟩⟩).cast rfl
                              ·
                               exact (GoE.endsT okF hJ mixed_ok GoE.start (wOpen_s25 B p cd ch swell fd fh)
                                ⟨⟨trivial, known⟩, ⟨(eqq_f q17), hp56⟩⟩).cast rfl
                           | false =>
                             exfalso
                             (have g6 := inB_iff.1 ‹inB swell _ _ = true›; exact no_tf (goes_mono (p := p) (d := cd) (h := ch) g6.1 (by assumption)) (by assumption))
                 | false =>
                   have hp58 : AllP (wOpen_p58 B p cd ch swell fd fh) := by
                    try have g2 := inB_iff.1 ‹inB cd 0 _ = true›
                    try have g3 := inB_iff.1 ‹inB ch 0 _ = true›
                    try have g4 := inB_iff.1 ‹inB fd 0 _ = true›
                    try have g5 := inB_iff.1 ‹inB fh 0 _ = true›
                    try have f1 := nx_facts (p := p) (fd := fd) (fh := fh) (by omega) (by omega) ‹nF p fd fh = true›
                    exact ⟨⟨by omega, by omega, (rowL_extract (z := 2) (fun _ => rfl) (by omega))⟩, ⟨⟨trivial, (by have t_ := pGoes (p) (cd) (ch) (swell); rw [q2, q3, q4, q7, q8] at t_; exact t_)⟩, hp3⟩⟩
                   by_cases q9 : (swell : Int) < (Span.lo (List.getD p.swell cd.toNat default))
                   ·
                    exfalso
                    (have g6 := inB_iff.1 ‹inB swell _ _ = true›; omega)
                   ·
                    have hp59 : AllP (wOpen_p59 B p cd ch swell fd fh) := by
                     try have g2 := inB_iff.1 ‹inB cd 0 _ = true›
                     try have g3 := inB_iff.1 ‹inB ch 0 _ = true›
                     try have g4 := inB_iff.1 ‹inB fd 0 _ = true›
                     try have g5 := inB_iff.1 ‹inB fh 0 _ = true›
                     try have f1 := nx_facts (p := p) (fd := fd) (fh := fh) (by omega) (by omega) ‹nF p fd fh = true›
                     exact ⟨⟨by omega, by omega, (rowL_extract (z := 2) (fun _ => rfl) (by omega))⟩, ⟨(ltq_f (Int.not_lt.1 q9)), hp58⟩⟩
                    by_cases q10 : (Span.hi (List.getD p.swell cd.toNat default) : Int) < (swell)
                    ·
                     exfalso
                     (have g6 := inB_iff.1 ‹inB swell _ _ = true›; omega)
                    ·
                     have hp60 : AllP (wOpen_p60 B p cd ch swell fd fh) := by
                      try have g2 := inB_iff.1 ‹inB cd 0 _ = true›
                      try have g3 := inB_iff.1 ‹inB ch 0 _ = true›
                      try have g4 := inB_iff.1 ‹inB fd 0 _ = true›
                      try have g5 := inB_iff.1 ‹inB fh 0 _ = true›
                      try have f1 := nx_facts (p := p) (fd := fd) (fh := fh) (by omega) (by omega) ‹nF p fd fh = true›
                      exact ⟨⟨trivial, (by have t_ := pHours (p) (cd); rw [q2, q3] at t_; exact t_)⟩, ⟨(ltq_f (Int.not_lt.1 q10)), hp59⟩⟩
                     cases q11 : nF p fd fh with
                     | true =>
                       have hp61 : AllP (wOpen_p61 B p cd ch swell fd fh) := by
                        try have g2 := inB_iff.1 ‹inB cd 0 _ = true›
                        try have g3 := inB_iff.1 ‹inB ch 0 _ = true›
                        try have g4 := inB_iff.1 ‹inB fd 0 _ = true›
                        try have g5 := inB_iff.1 ‹inB fh 0 _ = true›
                        try have f1 := nx_facts (p := p) (fd := fd) (fh := fh) (by omega) (by omega) ‹nF p fd fh = true›
                        exact ⟨⟨trivial, (by have t_ := pNext3 (p) (fd) (fh); rw [q2, q5, q6, q11] at t_; exact t_)⟩, hp60⟩
                       by_cases q12 : (24 : Int) < ((↑(List.length (hoursL p cd true 0)) : Int))
                       ·
                        exfalso
                        (have l1 := hoursL_len p cd true; omega)
                       ·
                        have hp62 : AllP (wOpen_p62 B p cd ch swell fd fh) := by
                         exact ⟨(ltq_f (Int.not_lt.1 q12)), hp61⟩
                        by_cases q13 : (24 : Int) < ((↑(List.length (hoursL p cd false 0)) : Int))
                        ·
                         exfalso
                         (have l1 := hoursL_len p cd false; omega)
                        ·
                         have hp63 : AllP (wOpen_p63 B p cd ch swell fd fh) := by
                          exact ⟨(ltq_f (Int.not_lt.1 q13)), hp62⟩
                         cases q14 : goesB p cd ch (Span.hi (List.getD p.swell cd.toNat default)) with
                         | true =>
                           exfalso
                           (have g6 := inB_iff.1 ‹inB swell _ _ = true›; exact no_tf (goes_mono (p := p) (d := cd) (h := ch) g6.2 (by assumption)) (by assumption))
                         | false =>
                           have hp64 : AllP (wOpen_p64 B p cd ch swell fd fh) := by
                            try have g2 := inB_iff.1 ‹inB cd 0 _ = true›
                            try have g3 := inB_iff.1 ‹inB ch 0 _ = true›
                            try have g4 := inB_iff.1 ‹inB fd 0 _ = true›
                            try have g5 := inB_iff.1 ‹inB fh 0 _ = true›
                            try have f1 := nx_facts (p := p) (fd := fd) (fh := fh) (by omega) (by omega) ‹nF p fd fh = true›
                            exact ⟨⟨trivial, (by have t_ := rHasH (p) (cd) (ch) (by first | with_reducible assumption | omega | simp_all); rw [q14] at t_; exact t_)⟩, hp63⟩
                           cases q15 : goesB p cd ch (Span.lo (List.getD p.swell cd.toNat default)) with
                           | true =>
                             have hp65 : AllP (wOpen_p65 B p cd ch swell fd fh) := by
                              try have g2 := inB_iff.1 ‹inB cd 0 _ = true›
                              try have g3 := inB_iff.1 ‹inB ch 0 _ = true›
                              try have g4 := inB_iff.1 ‹inB fd 0 _ = true›
                              try have g5 := inB_iff.1 ‹inB fh 0 _ = true›
                              try have f1 := nx_facts (p := p) (fd := fd) (fh := fh) (by omega) (by omega) ‹nF p fd fh = true›
                              exact ⟨⟨trivial, (by have t_ := rHasL (p) (cd) (ch) (by first | with_reducible assumption | omega | simp_all); rw [q15] at t_; exact t_)⟩, hp64⟩
                             by_cases q16 : (fd : Int) < (cd)
                             ·
                              have hp66 : AllP (wOpen_p66 B p cd ch swell fd fh) := by
                               exact ⟨(ltq_t q16), hp65⟩
                              cases q17 : inB (nD p fd fh) 0 ((↑p.swell.length : Int) - 1) with
                              | true =>
                                cases q18 : inB (nH p fd fh) 0 23 with
                                | true =>
                                  have hp67 : AllP (wOpen_p67 B p cd ch swell fd fh) := by
                                   try have g2 := inB_iff.1 ‹inB cd 0 _ = true›
                                   try have g3 := inB_iff.1 ‹inB ch 0 _ = true›
                                   try have g4 := inB_iff.1 ‹inB fd 0 _ = true›
                                   try have g5 := inB_iff.1 ‹inB fh 0 _ = true›
                                   try have f1 := nx_facts (p := p) (fd := fd) (fh := fh) (by omega) (by omega) ‹nF p fd fh = true›
                                   exact ⟨⟨trivial, (by have t_ := rCall (p) (nD p fd fh) (nH p fd fh); rw [q17, q18] at t_; exact t_)⟩, hp66⟩
                                  by_cases q19 : (nD p fd fh : Int) < (fd)
                                  ·
                                   exfalso
                                   (have g2 := inB_iff.1 ‹inB cd 0 _ = true›; have g3 := inB_iff.1 ‹inB ch 0 _ = true›; have g4 := inB_iff.1 ‹inB fd 0 _ = true›; have g5 := inB_iff.1 ‹inB fh 0 _ = true›; have f1 := nx_facts (p := p) (fd := fd) (fh := fh) (by omega) (by omega) ‹nF p fd fh = true›; first | omega | (simp [inB] at *; omega))
                                  ·
                                   have hp68 : AllP (wOpen_p68 B p cd ch swell fd fh) := by
                                    exact ⟨(ltq_f (Int.not_lt.1 q19)), hp67⟩
                                   by_cases q20 : (nD p fd fh : Int) = (fd)
                                   ·
                                    by_cases q21 : (nH p fd fh : Int) < (fh)
                                    ·
                                     exfalso
                                     (have g2 := inB_iff.1 ‹inB cd 0 _ = true›; have g3 := inB_iff.1 ‹inB ch 0 _ = true›; have g4 := inB_iff.1 ‹inB fd 0 _ = true›; have g5 := inB_iff.1 ‹inB fh 0 _ = true›; have f1 := nx_facts (p := p) (fd := fd) (fh := fh) (by omega) (by omega) ‹nF p fd fh = true›; first | omega | (simp [inB] at *; omega))
                                    ·
                                     by_cases q22 : (cd : Int) < (nD p fd fh)
                                     ·
                                      exfalso
                                      (have g6 := inB_iff.1 ‹inB swell _ _ = true›; omega)
                                     ·
                                      by_cases q23 : (cd : Int) = (nD p fd fh)
                                      ·
                                       exfalso
                                       (have g6 := inB_iff.1 ‹inB swell _ _ = true›; omega)
                                      ·
                                       by_cases q24 : ((↑(List.length (hoursL p (nD p fd fh) true 0)) : Int) : Int) ≤ (24)
                                       ·
                                        cases q25 : goesB p (nD p fd fh) (nH p fd fh) (Span.hi (List.getD p.swell (Int.toNat (nD p fd fh)) default)) with
                                        | true =>
                                          try have g2 := inB_iff.1 ‹inB cd 0 _ = true›
                                          try have g3 := inB_iff.1 ‹inB ch 0 _ = true›
                                          try have g4 := inB_iff.1 ‹inB fd 0 _ = true›
                                          try have g5 := inB_iff.1 ‹inB fh 0 _ = true›
                                          try have f1 := nx_facts (p := p) (fd := fd) (fh := fh) (by omega) (by omega) ‹nF p fd fh = true›
                                          exact (GoE.endsT okF hJ mixed_ok GoE.start (wOpen_s26 B p cd ch swell fd fh)
                                           ⟨⟨trivial, known⟩, ⟨⟨trivial, (by have t_ := rHasH (p) (nD p fd fh) (nH p fd fh) (by first | with_reducible assumption | omega | simp_all); rw [q25] at t_; exact t_)⟩, ⟨(nltq_t q24), ⟨(eqq_f q23), ⟨(ltq_f (Int.not_lt.1 q22)), ⟨⟨trivial, (by have t_ := pHours (p) (nD p fd fh); rw [q2, q17] at t_; exact t_)⟩, ⟨(ltq_f (Int.not_lt.1 q21)), ⟨(eqq_t q20), hp68⟩⟩⟩⟩⟩⟩⟩⟩).cast rfl
                                        | false =>
                                          exfalso
                                          (have g2 := inB_iff.1 ‹inB cd 0 _ = true›; have g3 := inB_iff.1 ‹inB ch 0 _ = true›; have g4 := inB_iff.1 ‹inB fd 0 _ = true›; have g5 := inB_iff.1 ‹inB fh 0 _ = true›; have f1 := nx_facts (p := p) (fd := fd) (fh := fh) (by omega) (by omega) ‹nF p fd fh = true›; exact no_tf f1.2.1 (by assumption))
                                       ·
                                        exfalso
                                        (have l1 := hoursL_len p (nD p fd fh) true; omega)
                                   ·
                                    have hp69 : AllP (wOpen_p69 B p cd ch swell fd fh) := by
                                     try have g2 := inB_iff.1 ‹inB cd 0 _ = true›
                                     try have g3 := inB_iff.1 ‹inB ch 0 _ = true›
                                     try have g4 := inB_iff.1 ‹inB fd 0 _ = true›
                                     try have g5 := inB_iff.1 ‹inB fh 0 _ = true›
                                     try have f1 := nx_facts (p := p) (fd := fd) (fh := fh) (by omega) (by omega) ‹nF p fd fh = true›
                                     exact ⟨⟨trivial, (by have t_ := pHours (p) (nD p fd fh); rw [q2, q17] at t_; exact t_)⟩, ⟨(eqq_f q20), hp68⟩⟩
                                    by_cases q21 : (cd : Int) < (nD p fd fh)
                                    ·
                                     by_cases q22 : ((↑(List.length (hoursL p (nD p fd fh) true 0)) : Int) : Int) ≤ (24)
                                     ·
                                      cases q23 : goesB p (nD p fd fh) (nH p fd fh) (Span.hi (List.getD p.swell (Int.toNat (nD p fd fh)) default)) with
                                      | true =>
                                        try have g2 := inB_iff.1 ‹inB cd 0 _ = true›
                                        try have g3 := inB_iff.1 ‹inB ch 0 _ = true›
                                        try have g4 := inB_iff.1 ‹inB fd 0 _ = true›
                                        try have g5 := inB_iff.1 ‹inB fh 0 _ = true›
                                        try have f1 := nx_facts (p := p) (fd := fd) (fh := fh) (by omega) (by omega) ‹nF p fd fh = true›
                                        exact (GoE.endsT okF hJ mixed_ok GoE.start (wOpen_s27 B p cd ch swell fd fh)
                                         ⟨⟨trivial, known⟩, ⟨⟨trivial, (by have t_ := rHasH (p) (nD p fd fh) (nH p fd fh) (by first | with_reducible assumption | omega | simp_all); rw [q23] at t_; exact t_)⟩, ⟨(nltq_t q22), ⟨(ltq_t q21), hp69⟩⟩⟩⟩).cast rfl
                                      | false =>
                                        exfalso
                                        (have g2 := inB_iff.1 ‹inB cd 0 _ = true›; have g3 := inB_iff.1 ‹inB ch 0 _ = true›; have g4 := inB_iff.1 ‹inB fd 0 _ = true›; have g5 := inB_iff.1 ‹inB fh 0 _ = true›; have f1 := nx_facts (p := p) (fd := fd) (fh := fh) (by omega) (by omega) ‹nF p fd fh = true›; exact no_tf f1.2.1 (by assumption))
                                     ·
                                      exfalso
                                      (have l1 := hoursL_len p (nD p fd fh) true; omega)
                                    ·
                                     have hp70 : AllP (wOpen_p70 B p cd ch swell fd fh) := by
                                      exact ⟨(ltq_f (Int.not_lt.1 q21)), hp69⟩
                                     by_cases q22 : (cd : Int) = (nD p fd fh)
                                     ·
                                      have hp71 : AllP (wOpen_p71 B p cd ch swell fd fh) := by
                                       exact ⟨(eqq_t q22), hp70⟩
                                      by_cases q23 : (ch : Int) < (nH p fd fh)
                                      ·
                                       by_cases q24 : ((↑(List.length (hoursL p (nD p fd fh) true 0)) : Int) : Int) ≤ (24)
                                       ·
                                        cases q25 : goesB p (nD p fd fh) (nH p fd fh) (Span.hi (List.getD p.swell (Int.toNat (nD p fd fh)) default)) with
                                        | true =>
                                          try have g2 := inB_iff.1 ‹inB cd 0 _ = true›
                                          try have g3 := inB_iff.1 ‹inB ch 0 _ = true›
                                          try have g4 := inB_iff.1 ‹inB fd 0 _ = true›
                                          try have g5 := inB_iff.1 ‹inB fh 0 _ = true›
                                          try have f1 := nx_facts (p := p) (fd := fd) (fh := fh) (by omega) (by omega) ‹nF p fd fh = true›
                                          exact (GoE.endsT okF hJ mixed_ok GoE.start (wOpen_s28 B p cd ch swell fd fh)
                                           ⟨⟨trivial, known⟩, ⟨⟨trivial, (by have t_ := rHasH (p) (nD p fd fh) (nH p fd fh) (by first | with_reducible assumption | omega | simp_all); rw [q25] at t_; exact t_)⟩, ⟨(nltq_t q24), ⟨(ltq_t q23), hp71⟩⟩⟩⟩).cast rfl
                                        | false =>
                                          exfalso
                                          (have g2 := inB_iff.1 ‹inB cd 0 _ = true›; have g3 := inB_iff.1 ‹inB ch 0 _ = true›; have g4 := inB_iff.1 ‹inB fd 0 _ = true›; have g5 := inB_iff.1 ‹inB fh 0 _ = true›; have f1 := nx_facts (p := p) (fd := fd) (fh := fh) (by omega) (by omega) ‹nF p fd fh = true›; exact no_tf f1.2.1 (by assumption))
                                       ·
                                        exfalso
                                        (have l1 := hoursL_len p (nD p fd fh) true; omega)
                                      ·
                                       by_cases q24 : ((↑(List.length (hoursL p (nD p fd fh) true 0)) : Int) : Int) ≤ (24)
                                       ·
                                        cases q25 : goesB p (nD p fd fh) (nH p fd fh) (Span.hi (List.getD p.swell (Int.toNat (nD p fd fh)) default)) with
                                        | true =>
                                          try have g2 := inB_iff.1 ‹inB cd 0 _ = true›
                                          try have g3 := inB_iff.1 ‹inB ch 0 _ = true›
                                          try have g4 := inB_iff.1 ‹inB fd 0 _ = true›
                                          try have g5 := inB_iff.1 ‹inB fh 0 _ = true›
                                          try have f1 := nx_facts (p := p) (fd := fd) (fh := fh) (by omega) (by omega) ‹nF p fd fh = true›
                                          exact (GoE.endsT okF hJ mixed_ok GoE.start (wOpen_s29 B p cd ch swell fd fh)
                                           ⟨⟨trivial, known⟩, ⟨⟨trivial, (by have t_ := rHasH (p) (nD p fd fh) (nH p fd fh) (by first | with_reducible assumption | omega | simp_all); rw [q25] at t_; exact t_)⟩, ⟨(nltq_t q24), ⟨(ltq_f (Int.not_lt.1 q23)), hp71⟩⟩⟩⟩).cast rfl
                                        | false =>
                                          exfalso
                                          (have g2 := inB_iff.1 ‹inB cd 0 _ = true›; have g3 := inB_iff.1 ‹inB ch 0 _ = true›; have g4 := inB_iff.1 ‹inB fd 0 _ = true›; have g5 := inB_iff.1 ‹inB fh 0 _ = true›; have f1 := nx_facts (p := p) (fd := fd) (fh := fh) (by omega) (by omega) ‹nF p fd fh = true›; exact no_tf f1.2.1 (by assumption))
                                       ·
                                        exfalso
                                        (have l1 := hoursL_len p (nD p fd fh) true; omega)
                                     ·
                                      by_cases q23 : ((↑(List.length (hoursL p (nD p fd fh) true 0)) : Int) : Int) ≤ (24)
                                      ·
                                       cases q24 : goesB p (nD p fd fh) (nH p fd fh) (Span.hi (List.getD p.swell (Int.toNat (nD p fd fh)) default)) with
                                       | true =>
                                         try have g2 := inB_iff.1 ‹inB cd 0 _ = true›
                                         try have g3 := inB_iff.1 ‹inB ch 0 _ = true›
                                         try have g4 := inB_iff.1 ‹inB fd 0 _ = true›
                                         try have g5 := inB_iff.1 ‹inB fh 0 _ = true›
                                         try have f1 := nx_facts (p := p) (fd := fd) (fh := fh) (by omega) (by omega) ‹nF p fd fh = true›
                                         exact (GoE.endsT okF hJ mixed_ok GoE.start (wOpen_s30 B p cd ch swell fd fh)
                                          ⟨⟨trivial, known⟩, ⟨⟨trivial, (by have t_ := rHasH (p) (nD p fd fh) (nH p fd fh) (by first | with_reducible assumption | omega | simp_all); rw [q24] at t_; exact t_)⟩, ⟨(nltq_t q23), ⟨(eqq_f q22), hp70⟩⟩⟩⟩).cast rfl
                                       | false =>
                                         exfalso
                                         (have g2 := inB_iff.1 ‹inB cd 0 _ = true›; have g3 := inB_iff.1 ‹inB ch 0 _ = true›; have g4 := inB_iff.1 ‹inB fd 0 _ = true›; have g5 := inB_iff.1 ‹inB fh 0 _ = true›; have f1 := nx_facts (p := p) (fd := fd) (fh := fh) (by omega) (by omega) ‹nF p fd fh = true›; exact no_tf f1.2.1 (by assumption))
                                      ·
                                       exfalso
                                       (have l1 := hoursL_len p (nD p fd fh) true; omega)
                                | false =>
                                  exfalso
                                  (have g2 := inB_iff.1 ‹inB cd 0 _ = true›; have g3 := inB_iff.1 ‹inB ch 0 _ = true›; have g4 := inB_iff.1 ‹inB fd 0 _ = true›; have g5 := inB_iff.1 ‹inB fh 0 _ = true›; have f1 := nx_facts (p := p) (fd := fd) (fh := fh) (by omega) (by omega) ‹nF p fd fh = true›; first | omega | (simp [inB] at *; omega))
                              | false =>
                                exfalso
                                (have g2 := inB_iff.1 ‹inB cd 0 _ = true›; have g3 := inB_iff.1 ‹inB ch 0 _ = true›; have g4 := inB_iff.1 ‹inB fd 0 _ = true›; have g5 := inB_iff.1 ‹inB fh 0 _ = true›; have f1 := nx_facts (p := p) (fd := fd) (fh := fh) (by omega) (by omega) ‹nF p fd fh = true›; first | omega | (simp [inB] at *; omega))
                             ·
                              have hp72 : AllP (wOpen_p72 B p cd ch swell fd fh) := by
                               exact ⟨(ltq_f (Int.not_lt.1 q16)), hp65⟩
                              by_cases q17 : (cd : Int) = (fd)
                              ·
                               have hp73 : AllP (wOpen_p73 B p cd ch swell fd fh) := by
                                exact ⟨(eqq_t q17), hp72⟩
                               by_cases q18 : (fh : Int) ≤ (ch)
                               ·
                                have hp74 : AllP (wOpen_p74 B p cd ch swell fd fh) := by
                                 exact ⟨(nltq_t q18), hp73⟩
                                cases q19 : inB (nD p fd fh) 0 ((↑p.swell.length : Int) - 1) with
                                | true =>
                                  cases q20 : inB (nH p fd fh) 0 23 with
                                  | true =>
                                    have hp75 : AllP (wOpen_p75 B p cd ch swell fd fh) := by
                                     try have g2 := inB_iff.1 ‹inB cd 0 _ = true›
                                     try have g3 := inB_iff.1 ‹inB ch 0 _ = true›
                                     try have g4 := inB_iff.1 ‹inB fd 0 _ = true›
                                     try have g5 := inB_iff.1 ‹inB fh 0 _ = true›
                                     try have f1 := nx_facts (p := p) (fd := fd) (fh := fh) (by omega) (by omega) ‹nF p fd fh = true›
                                     exact ⟨⟨trivial, (by have t_ := rCall (p) (nD p fd fh) (nH p fd fh); rw [q19, q20] at t_; exact t_)⟩, hp74⟩
                                    by_cases q21 : (nD p fd fh : Int) < (fd)
                                    ·
                                     exfalso
                                     (have g2 := inB_iff.1 ‹inB cd 0 _ = true›; have g3 := inB_iff.1 ‹inB ch 0 _ = true›; have g4 := inB_iff.1 ‹inB fd 0 _ = true›; have g5 := inB_iff.1 ‹inB fh 0 _ = true›; have f1 := nx_facts (p := p) (fd := fd) (fh := fh) (by omega) (by omega) ‹nF p fd fh = true›; first | omega | (simp [inB] at *; omega))
                                    ·
                                     have hp76 : AllP (wOpen_p76 B p cd ch swell fd fh) := by
                                      exact ⟨(ltq_f (Int.not_lt.1 q21)), hp75⟩
                                     by_cases q22 : (nD p fd fh : Int) = (fd)
                                     ·
                                      have hp77 : AllP (wOpen_p77 B p cd ch swell fd fh) := by
                                       exact ⟨(eqq_t q22), hp76⟩
                                      by_cases q23 : (nH p fd fh : Int) < (fh)
                                      ·
                                       exfalso
                                       (have g2 := inB_iff.1 ‹inB cd 0 _ = true›; have g3 := inB_iff.1 ‹inB ch 0 _ = true›; have g4 := inB_iff.1 ‹inB fd 0 _ = true›; have g5 := inB_iff.1 ‹inB fh 0 _ = true›; have f1 := nx_facts (p := p) (fd := fd) (fh := fh) (by omega) (by omega) ‹nF p fd fh = true›; first | omega | (simp [inB] at *; omega))
                                      ·
                                       have hp78 : AllP (wOpen_p78 B p cd ch swell fd fh) := by
                                        try have g2 := inB_iff.1 ‹inB cd 0 _ = true›
                                        try have g3 := inB_iff.1 ‹inB ch 0 _ = true›
                                        try have g4 := inB_iff.1 ‹inB fd 0 _ = true›
                                        try have g5 := inB_iff.1 ‹inB fh 0 _ = true›
                                        try have f1 := nx_facts (p := p) (fd := fd) (fh := fh) (by omega) (by omega) ‹nF p fd fh = true›
                                        exact ⟨⟨trivial, (by have t_ := pHours (p) (nD p fd fh); rw [q2, q19] at t_; exact t_)⟩, ⟨(ltq_f (Int.not_lt.1 q23)), hp77⟩⟩
                                       by_cases q24 : (cd : Int) < (nD p fd fh)
                                       ·
                                        exfalso
                                        (have g6 := inB_iff.1 ‹inB swell _ _ = true›; omega)
                                       ·
                                        have hp79 : AllP (wOpen_p79 B p cd ch swell fd fh) := by
                                         exact ⟨(ltq_f (Int.not_lt.1 q24)), hp78⟩
                                        by_cases q25 : (cd : Int) = (nD p fd fh)
                                        ·
                                         have hp80 : AllP (wOpen_p80 B p cd ch swell fd fh) := by
                                          exact ⟨(eqq_t q25), hp79⟩
                                         by_cases q26 : (ch : Int) < (nH p fd fh)
                                         ·
                                          by_cases q27 : ((↑(List.length (hoursL p (nD p fd fh) true 0)) : Int) : Int) ≤ (24)
                                          ·
                                           cases q28 : goesB p (nD p fd fh) (nH p fd fh) (Span.hi (List.getD p.swell (Int.toNat (nD p fd fh)) default)) with
                                           | true =>
                                             try have g2 := inB_iff.1 ‹inB cd 0 _ = true›
                                             try have g3 := inB_iff.1 ‹inB ch 0 _ = true›
                                             try have g4 := inB_iff.1 ‹inB fd 0 _ = true›
                                             try have g5 := inB_iff.1 ‹inB fh 0 _ = true›
                                             try have f1 := nx_facts (p := p) (fd := fd) (fh := fh) (by omega) (by omega) ‹nF p fd fh = true›
                                             exact (GoE.endsT okF hJ mixed_ok GoE.start (wOpen_s31 B p cd ch swell fd fh)
                                              ⟨⟨trivial, known⟩, ⟨⟨trivial, (by have t_ := rHasH (p) (nD p fd fh) (nH p fd fh) (by first | with_reducible assumption | omega | simp_all); rw [q28] at t_; exact t_)⟩, ⟨(nltq_t q27), ⟨(ltq_t q26), hp80⟩⟩⟩⟩).cast rfl
                                           | false =>
                                             exfalso
                                             (have g2 := inB_iff.1 ‹inB cd 0 _ = true›; have g3 := inB_iff.1 ‹inB ch 0 _ = true›; have g4 := inB_iff.1 ‹inB fd 0 _ = true›; have g5 := inB_iff.1 ‹inB fh 0 _ = true›; have f1 := nx_facts (p := p) (fd := fd) (fh := fh) (by omega) (by omega) ‹nF p fd fh = true›; exact no_tf f1.2.1 (by assumption))
                                          ·
                                           exfalso
                                           (have l1 := hoursL_len p (nD p fd fh) true; omega)
                                         ·
                                          by_cases q27 : ((↑(List.length (hoursL p (nD p fd fh) true 0)) : Int) : Int) ≤ (24)
                                          ·
                                           cases q28 : goesB p (nD p fd fh) (nH p fd fh) (Span.hi (List.getD p.swell (Int.toNat (nD p fd fh)) default)) with
                                           | true =>
                                             try have g2 := inB_iff.1 ‹inB cd 0 _ = true›
                                             try have g3 := inB_iff.1 ‹inB ch 0 _ = true›
                                             try have g4 := inB_iff.1 ‹inB fd 0 _ = true›
                                             try have g5 := inB_iff.1 ‹inB fh 0 _ = true›
                                             try have f1 := nx_facts (p := p) (fd := fd) (fh := fh) (by omega) (by omega) ‹nF p fd fh = true›
                                             exact (GoE.endsT okF hJ mixed_ok GoE.start (wOpen_s32 B p cd ch swell fd fh)
                                              ⟨⟨trivial, known⟩, ⟨⟨trivial, (by have t_ := rHasH (p) (nD p fd fh) (nH p fd fh) (by first | with_reducible assumption | omega | simp_all); rw [q28] at t_; exact t_)⟩, ⟨(nltq_t q27), ⟨(ltq_f (Int.not_lt.1 q26)), hp80⟩⟩⟩⟩).cast rfl
                                           | false =>
                                             exfalso
                                             (have g2 := inB_iff.1 ‹inB cd 0 _ = true›; have g3 := inB_iff.1 ‹inB ch 0 _ = true›; have g4 := inB_iff.1 ‹inB fd 0 _ = true›; have g5 := inB_iff.1 ‹inB fh 0 _ = true›; have f1 := nx_facts (p := p) (fd := fd) (fh := fh) (by omega) (by omega) ‹nF p fd fh = true›; exact no_tf f1.2.1 (by assumption))
                                          ·
                                           exfalso
                                           (have l1 := hoursL_len p (nD p fd fh) true; omega)
                                        ·
                                         exfalso
                                         (have g6 := inB_iff.1 ‹inB swell _ _ = true›; omega)
                                     ·
                                      by_cases q23 : (cd : Int) < (nD p fd fh)
                                      ·
                                       by_cases q24 : ((↑(List.length (hoursL p (nD p fd fh) true 0)) : Int) : Int) ≤ (24)
                                       ·
                                        cases q25 : goesB p (nD p fd fh) (nH p fd fh) (Span.hi (List.getD p.swell (Int.toNat (nD p fd fh)) default)) with
                                        | true =>
                                          try have g2 := inB_iff.1 ‹inB cd 0 _ = true›
                                          try have g3 := inB_iff.1 ‹inB ch 0 _ = true›
                                          try have g4 := inB_iff.1 ‹inB fd 0 _ = true›
                                          try have g5 := inB_iff.1 ‹inB fh 0 _ = true›
                                          try have f1 := nx_facts (p := p) (fd := fd) (fh := fh) (by omega) (by omega) ‹nF p fd fh = true›
                                          exact (GoE.endsT okF hJ mixed_ok GoE.start (wOpen_s33 B p cd ch swell fd fh)
                                           ⟨⟨trivial, known⟩, ⟨⟨trivial, (by have t_ := rHasH (p) (nD p fd fh) (nH p fd fh) (by first | with_reducible assumption | omega | simp_all); rw [q25] at t_; exact t_)⟩, ⟨(nltq_t q24), ⟨(ltq_t q23), ⟨⟨trivial, (by have t_ := pHours (p) (nD p fd fh); rw [q2, q19] at t_; exact t_)⟩, ⟨(eqq_f q22), hp76⟩⟩⟩⟩⟩⟩).cast rfl
                                        | false =>
                                          exfalso
                                          (have g2 := inB_iff.1 ‹inB cd 0 _ = true›; have g3 := inB_iff.1 ‹inB ch 0 _ = true›; have g4 := inB_iff.1 ‹inB fd 0 _ = true›; have g5 := inB_iff.1 ‹inB fh 0 _ = true›; have f1 := nx_facts (p := p) (fd := fd) (fh := fh) (by omega) (by omega) ‹nF p fd fh = true›; exact no_tf f1.2.1 (by assumption))
                                       ·
                                        exfalso
                                        (have l1 := hoursL_len p (nD p fd fh) true; omega)
                                      ·
                                       exfalso
                                       (have g6 := inB_iff.1 ‹inB swell _ _ = true›; omega)
                                  | false =>
                                    exfalso
                                    (have g2 := inB_iff.1 ‹inB cd 0 _ = true›; have g3 := inB_iff.1 ‹inB ch 0 _ = true›; have g4 := inB_iff.1 ‹inB fd 0 _ = true›; have g5 := inB_iff.1 ‹inB fh 0 _ = true›; have f1 := nx_facts (p := p) (fd := fd) (fh := fh) (by omega) (by omega) ‹nF p fd fh = true›; first | omega | (simp [inB] at *; omega))
                                | false =>
                                  exfalso
                                  (have g2 := inB_iff.1 ‹inB cd 0 _ = true›; have g3 := inB_iff.1 ‹inB ch 0 _ = true›; have g4 := inB_iff.1 ‹inB fd 0 _ = true›; have g5 := inB_iff.1 ‹inB fh 0 _ = true›; have f1 := nx_facts (p := p) (fd := fd) (fh := fh) (by omega) (by omega) ‹nF p fd fh = true›; first | omega | (simp [inB] at *; omega))
                               ·
                                have hp81 : AllP (wOpen_p81 B p cd ch swell fd fh) := by
                                 exact ⟨(nltq_f (Int.not_le.1 q18)), hp73⟩
                                cases q19 : inB (nD p fd fh) 0 ((↑p.swell.length : Int) - 1) with
                                | true =>
                                  cases q20 : inB (nH p fd fh) 0 23 with
                                  | true =>
                                    have hp82 : AllP (wOpen_p82 B p cd ch swell fd fh) := by
                                     try have g2 := inB_iff.1 ‹inB cd 0 _ = true›
                                     try have g3 := inB_iff.1 ‹inB ch 0 _ = true›
                                     try have g4 := inB_iff.1 ‹inB fd 0 _ = true›
                                     try have g5 := inB_iff.1 ‹inB fh 0 _ = true›
                                     try have f1 := nx_facts (p := p) (fd := fd) (fh := fh) (by omega) (by omega) ‹nF p fd fh = true›
                                     exact ⟨⟨trivial, (by have t_ := rCall (p) (nD p fd fh) (nH p fd fh); rw [q19, q20] at t_; exact t_)⟩, hp81⟩
                                    by_cases q21 : (nD p fd fh : Int) < (fd)
                                    ·
                                     exfalso
                                     (have g2 := inB_iff.1 ‹inB cd 0 _ = true›; have g3 := inB_iff.1 ‹inB ch 0 _ = true›; have g4 := inB_iff.1 ‹inB fd 0 _ = true›; have g5 := inB_iff.1 ‹inB fh 0 _ = true›; have f1 := nx_facts (p := p) (fd := fd) (fh := fh) (by omega) (by omega) ‹nF p fd fh = true›; first | omega | (simp [inB] at *; omega))
                                    ·
                                     have hp83 : AllP (wOpen_p83 B p cd ch swell fd fh) := by
                                      exact ⟨(ltq_f (Int.not_lt.1 q21)), hp82⟩
                                     by_cases q22 : (nD p fd fh : Int) = (fd)
                                     ·
                                      by_cases q23 : (nH p fd fh : Int) < (fh)
                                      ·
                                       exfalso
                                       (have g2 := inB_iff.1 ‹inB cd 0 _ = true›; have g3 := inB_iff.1 ‹inB ch 0 _ = true›; have g4 := inB_iff.1 ‹inB fd 0 _ = true›; have g5 := inB_iff.1 ‹inB fh 0 _ = true›; have f1 := nx_facts (p := p) (fd := fd) (fh := fh) (by omega) (by omega) ‹nF p fd fh = true›; first | omega | (simp [inB] at *; omega))
                                      ·
                                       by_cases q24 : (cd : Int) < (nD p fd fh)
                                       ·
                                        exfalso
                                        (have g6 := inB_iff.1 ‹inB swell _ _ = true›; omega)
                                       ·
                                        by_cases q25 : (cd : Int) = (nD p fd fh)
                                        ·
                                         by_cases q26 : (ch : Int) < (nH p fd fh)
                                         ·
                                          by_cases q27 : ((↑(List.length (hoursL p (nD p fd fh) true 0)) : Int) : Int) ≤ (24)
                                          ·
                                           cases q28 : goesB p (nD p fd fh) (nH p fd fh) (Span.hi (List.getD p.swell (Int.toNat (nD p fd fh)) default)) with
                                           | true =>
                                             try have g2 := inB_iff.1 ‹inB cd 0 _ = true›
                                             try have g3 := inB_iff.1 ‹inB ch 0 _ = true›
                                             try have g4 := inB_iff.1 ‹inB fd 0 _ = true›
                                             try have g5 := inB_iff.1 ‹inB fh 0 _ = true›
                                             try have f1 := nx_facts (p := p) (fd := fd) (fh := fh) (by omega) (by omega) ‹nF p fd fh = true›
                                             exact (GoE.endsT okF hJ mixed_ok GoE.start (wOpen_s34 B p cd ch swell fd fh)
                                              ⟨⟨trivial, known⟩, ⟨⟨trivial, (by have t_ := rHasH (p) (nD p fd fh) (nH p fd fh) (by first | with_reducible assumption | omega | simp_all); rw [q28] at t_; exact t_)⟩, ⟨(nltq_t q27), ⟨(ltq_t q26), ⟨(eqq_t q25), ⟨(ltq_f (Int.not_lt.1 q24)), ⟨⟨trivial, (by have t_ := pHours (p) (nD p fd fh); rw [q2, q19] at t_; exact t_)⟩, ⟨(ltq_f (Int.not_lt.1 q23)), ⟨(eqq_t q22), hp83⟩⟩⟩⟩⟩⟩⟩⟩⟩).cast rfl
                                           | false =>
                                             exfalso
                                             (have g2 := inB_iff.1 ‹inB cd 0 _ = true›; have g3 := inB_iff.1 ‹inB ch 0 _ = true›; have g4 := inB_iff.1 ‹inB fd 0 _ = true›; have g5 := inB_iff.1 ‹inB fh 0 _ = true›; have f1 := nx_facts (p := p) (fd := fd) (fh := fh) (by omega) (by omega) ‹nF p fd fh = true›; exact no_tf f1.2.1 (by assumption))
                                          ·
                                           exfalso
                                           (have l1 := hoursL_len p (nD p fd fh) true; omega)
                                         ·
                                          exfalso
                                          (have g6 := inB_iff.1 ‹inB swell _ _ = true›; omega)
                                        ·
                                         exfalso
                                         (have g6 := inB_iff.1 ‹inB swell _ _ = true›; omega)
                                     ·
                                      by_cases q23 : (cd : Int) < (nD p fd fh)
                                      ·
                                       by_cases q24 : ((↑(List.length (hoursL p (nD p fd fh) true 0)) : Int) : Int) ≤ (24)
                                       ·
                                        cases q25 : goesB p (nD p fd fh) (nH p fd fh) (Span.hi (List.getD p.swell (Int.toNat (nD p fd fh)) default)) with
                                        | true =>
                                          try have g2 := inB_iff.1 ‹inB cd 0 _ = true›
                                          try have g3 := inB_iff.1 ‹inB ch 0 _ = true›
                                          try have g4 := inB_iff.1 ‹inB fd 0 _ = true›
                                          try have g5 := inB_iff.1 ‹inB fh 0 _ = true›
                                          try have f1 := nx_facts (p := p) (fd := fd) (fh := fh) (by omega) (by omega) ‹nF p fd fh = true›
                                          exact (GoE.endsT okF hJ mixed_ok GoE.start (wOpen_s35 B p cd ch swell fd fh)
                                           ⟨⟨trivial, known⟩, ⟨⟨trivial, (by have t_ := rHasH (p) (nD p fd fh) (nH p fd fh) (by first | with_reducible assumption | omega | simp_all); rw [q25] at t_; exact t_)⟩, ⟨(nltq_t q24), ⟨(ltq_t q23), ⟨⟨trivial, (by have t_ := pHours (p) (nD p fd fh); rw [q2, q19] at t_; exact t_)⟩, ⟨(eqq_f q22), hp83⟩⟩⟩⟩⟩⟩).cast rfl
                                        | false =>
                                          exfalso
                                          (have g2 := inB_iff.1 ‹inB cd 0 _ = true›; have g3 := inB_iff.1 ‹inB ch 0 _ = true›; have g4 := inB_iff.1 ‹inB fd 0 _ = true›; have g5 := inB_iff.1 ‹inB fh 0 _ = true›; have f1 := nx_facts (p := p) (fd := fd) (fh := fh) (by omega) (by omega) ‹nF p fd fh = true›; exact no_tf f1.2.1 (by assumption))
                                       ·
                                        exfalso
                                        (have l1 := hoursL_len p (nD p fd fh) true; omega)
                                      ·
                                       exfalso
                                       (have g6 := inB_iff.1 ‹inB swell _ _ = true›; omega)
                                  | false =>
                                    exfalso
                                    (have g2 := inB_iff.1 ‹inB cd 0 _ = true›; have g3 := inB_iff.1 ‹inB ch 0 _ = true›; have g4 := inB_iff.1 ‹inB fd 0 _ = true›; have g5 := inB_iff.1 ‹inB fh 0 _ = true›; have f1 := nx_facts (p := p) (fd := fd) (fh := fh) (by omega) (by omega) ‹nF p fd fh = true›; first | omega | (simp [inB] at *; omega))
                                | false =>
                                  exfalso
                                  (have g2 := inB_iff.1 ‹inB cd 0 _ = true›; have g3 := inB_iff.1 ‹inB ch 0 _ = true›; have g4 := inB_iff.1 ‹inB fd 0 _ = true›; have g5 := inB_iff.1 ‹inB fh 0 _ = true›; have f1 := nx_facts (p := p) (fd := fd) (fh := fh) (by omega) (by omega) ‹nF p fd fh = true›; first | omega | (simp [inB] at *; omega))
                              ·
                               have hp84 : AllP (wOpen_p84 B p cd ch swell fd fh) := by
                                exact ⟨(eqq_f q17), hp72⟩
                               cases q18 : inB (nD p fd fh) 0 ((↑p.swell.length : Int) - 1) with
                               | true =>
                                 cases q19 : inB (nH p fd fh) 0 23 with
                                 | true =>
                                   have hp85 : AllP (wOpen_p85 B p cd ch swell fd fh) := by
                                    try have g2 := inB_iff.1 ‹inB cd 0 _ = true›
                                    try have g3 := inB_iff.1 ‹inB ch 0 _ = true›
                                    try have g4 := inB_iff.1 ‹inB fd 0 _ = true›
                                    try have g5 := inB_iff.1 ‹inB fh 0 _ = true›
                                    try have f1 := nx_facts (p := p) (fd := fd) (fh := fh) (by omega) (by omega) ‹nF p fd fh = true›
                                    exact ⟨⟨trivial, (by have t_ := rCall (p) (nD p fd fh) (nH p fd fh); rw [q18, q19] at t_; exact t_)⟩, hp84⟩
                                   by_cases q20 : (nD p fd fh : Int) < (fd)
                                   ·
                                    exfalso
                                    (have g2 := inB_iff.1 ‹inB cd 0 _ = true›; have g3 := inB_iff.1 ‹inB ch 0 _ = true›; have g4 := inB_iff.1 ‹inB fd 0 _ = true›; have g5 := inB_iff.1 ‹inB fh 0 _ = true›; have f1 := nx_facts (p := p) (fd := fd) (fh := fh) (by omega) (by omega) ‹nF p fd fh = true›; first | omega | (simp [inB] at *; omega))
                                   ·
                                    have hp86 : AllP (wOpen_p86 B p cd ch swell fd fh) := by
                                     exact ⟨(ltq_f (Int.not_lt.1 q20)), hp85⟩
                                    by_cases q21 : (nD p fd fh : Int) = (fd)
                                    ·
                                     by_cases q22 : (nH p fd fh : Int) < (fh)
                                     ·
                                      exfalso
                                      (have g2 := inB_iff.1 ‹inB cd 0 _ = true›; have g3 := inB_iff.1 ‹inB ch 0 _ = true›; have g4 := inB_iff.1 ‹inB fd 0 _ = true›; have g5 := inB_iff.1 ‹inB fh 0 _ = true›; have f1 := nx_facts (p := p) (fd := fd) (fh := fh) (by omega) (by omega) ‹nF p fd fh = true›; first | omega | (simp [inB] at *; omega))
                                     ·
                                      by_cases q23 : (cd : Int) < (nD p fd fh)
                                      ·
                                       by_cases q24 : ((↑(List.length (hoursL p (nD p fd fh) true 0)) : Int) : Int) ≤ (24)
                                       ·
                                        cases q25 : goesB p (nD p fd fh) (nH p fd fh) (Span.hi (List.getD p.swell (Int.toNat (nD p fd fh)) default)) with
                                        | true =>
                                          try have g2 := inB_iff.1 ‹inB cd 0 _ = true›
                                          try have g3 := inB_iff.1 ‹inB ch 0 _ = true›
                                          try have g4 := inB_iff.1 ‹inB fd 0 _ = true›
                                          try have g5 := inB_iff.1 ‹inB fh 0 _ = true›
                                          try have f1 := nx_facts (p := p) (fd := fd) (fh := fh) (by omega) (by omega) ‹nF p fd fh = true›
                                          exact (GoE.endsT okF hJ mixed_ok GoE.start (wOpen_s36 B p cd ch swell fd fh)
                                           ⟨⟨trivial, known⟩, ⟨⟨trivial, (by have t_ := rHasH (p) (nD p fd fh) (nH p fd fh) (by first | with_reducible assumption | omega | simp_all); rw [q25] at t_; exact t_)⟩, ⟨(nltq_t q24), ⟨(ltq_t q23), ⟨⟨trivial, (by have t_ := pHours (p) (nD p fd fh); rw [q2, q18] at t_; exact t_)⟩, ⟨(ltq_f (Int.not_lt.1 q22)), ⟨(eqq_t q21), hp86⟩⟩⟩⟩⟩⟩⟩).cast rfl
                                        | false =>
                                          exfalso
                                          (have g2 := inB_iff.1 ‹inB cd 0 _ = true›; have g3 := inB_iff.1 ‹inB ch 0 _ = true›; have g4 := inB_iff.1 ‹inB fd 0 _ = true›; have g5 := inB_iff.1 ‹inB fh 0 _ = true›; have f1 := nx_facts (p := p) (fd := fd) (fh := fh) (by omega) (by omega) ‹nF p fd fh = true›; exact no_tf f1.2.1 (by assumption))
                                       ·
                                        exfalso
                                        (have l1 := hoursL_len p (nD p fd fh) true; omega)
                                      ·
                                       exfalso
                                       (have g6 := inB_iff.1 ‹inB swell _ _ = true›; omega)
                                    ·
                                     by_cases q22 : (cd : Int) < (nD p fd fh)
                                     ·
                                      by_cases q23 : ((↑(List.length (hoursL p (nD p fd fh) true 0)) : Int) : Int) ≤ (24)
                                      ·
                                       cases q24 : goesB p (nD p fd fh) (nH p fd fh) (Span.hi (List.getD p.swell (Int.toNat (nD p fd fh)) default)) with
                                       | true =>
                                         try have g2 := inB_iff.1 ‹inB cd 0 _ = true›
                                         try have g3 := inB_iff.1 ‹inB ch 0 _ = true›
                                         try have g4 := inB_iff.1 ‹inB fd 0 _ = true›
                                         try have g5 := inB_iff.1 ‹inB fh 0 _ = true›
                                         try have f1 := nx_facts (p := p) (fd := fd) (fh := fh) (by omega) (by omega) ‹nF p fd fh = true›
                                         exact (GoE.endsT okF hJ mixed_ok GoE.start (wOpen_s37 B p cd ch swell fd fh)
                                          ⟨⟨trivial, known⟩, ⟨⟨trivial, (by have t_ := rHasH (p) (nD p fd fh) (nH p fd fh) (by first | with_reducible assumption | omega | simp_all); rw [q24] at t_; exact t_)⟩, ⟨(nltq_t q23), ⟨(ltq_t q22), ⟨⟨trivial, (by have t_ := pHours (p) (nD p fd fh); rw [q2, q18] at t_; exact t_)⟩, ⟨(eqq_f q21), hp86⟩⟩⟩⟩⟩⟩).cast rfl
                                       | false =>
                                         exfalso
                                         (have g2 := inB_iff.1 ‹inB cd 0 _ = true›; have g3 := inB_iff.1 ‹inB ch 0 _ = true›; have g4 := inB_iff.1 ‹inB fd 0 _ = true›; have g5 := inB_iff.1 ‹inB fh 0 _ = true›; have f1 := nx_facts (p := p) (fd := fd) (fh := fh) (by omega) (by omega) ‹nF p fd fh = true›; exact no_tf f1.2.1 (by assumption))
                                      ·
                                       exfalso
                                       (have l1 := hoursL_len p (nD p fd fh) true; omega)
                                     ·
                                      exfalso
                                      (have g6 := inB_iff.1 ‹inB swell _ _ = true›; omega)
                                 | false =>
                                   exfalso
                                   (have g2 := inB_iff.1 ‹inB cd 0 _ = true›; have g3 := inB_iff.1 ‹inB ch 0 _ = true›; have g4 := inB_iff.1 ‹inB fd 0 _ = true›; have g5 := inB_iff.1 ‹inB fh 0 _ = true›; have f1 := nx_facts (p := p) (fd := fd) (fh := fh) (by omega) (by omega) ‹nF p fd fh = true›; first | omega | (simp [inB] at *; omega))
                               | false =>
                                 exfalso
                                 (have g2 := inB_iff.1 ‹inB cd 0 _ = true›; have g3 := inB_iff.1 ‹inB ch 0 _ = true›; have g4 := inB_iff.1 ‹inB fd 0 _ = true›; have g5 := inB_iff.1 ‹inB fh 0 _ = true›; have f1 := nx_facts (p := p) (fd := fd) (fh := fh) (by omega) (by omega) ‹nF p fd fh = true›; first | omega | (simp [inB] at *; omega))
                           | false =>
                             have hp87 : AllP (wOpen_p87 B p cd ch swell fd fh) := by
                              try have g2 := inB_iff.1 ‹inB cd 0 _ = true›
                              try have g3 := inB_iff.1 ‹inB ch 0 _ = true›
                              try have g4 := inB_iff.1 ‹inB fd 0 _ = true›
                              try have g5 := inB_iff.1 ‹inB fh 0 _ = true›
                              try have f1 := nx_facts (p := p) (fd := fd) (fh := fh) (by omega) (by omega) ‹nF p fd fh = true›
                              exact ⟨⟨trivial, (by have t_ := rHasL (p) (cd) (ch) (by first | with_reducible assumption | omega | simp_all); rw [q15] at t_; exact t_)⟩, hp64⟩
                             by_cases q16 : (fd : Int) < (cd)
                             ·
                              have hp88 : AllP (wOpen_p88 B p cd ch swell fd fh) := by
                               exact ⟨(ltq_t q16), hp87⟩
                              cases q17 : inB (nD p fd fh) 0 ((↑p.swell.length : Int) - 1) with
                              | true =>
                                cases q18 : inB (nH p fd fh) 0 23 with
                                | true =>
                                  have hp89 : AllP (wOpen_p89 B p cd ch swell fd fh) := by
                                   try have g2 := inB_iff.1 ‹inB cd 0 _ = true›
                                   try have g3 := inB_iff.1 ‹inB ch 0 _ = true›
                                   try have g4 := inB_iff.1 ‹inB fd 0 _ = true›
                                   try have g5 := inB_iff.1 ‹inB fh 0 _ = true›
                                   try have f1 := nx_facts (p := p) (fd := fd) (fh := fh) (by omega) (by omega) ‹nF p fd fh = true›
                                   exact ⟨⟨trivial, (by have t_ := rCall (p) (nD p fd fh) (nH p fd fh); rw [q17, q18] at t_; exact t_)⟩, hp88⟩
                                  by_cases q19 : (nD p fd fh : Int) < (fd)
                                  ·
                                   exfalso
                                   (have g2 := inB_iff.1 ‹inB cd 0 _ = true›; have g3 := inB_iff.1 ‹inB ch 0 _ = true›; have g4 := inB_iff.1 ‹inB fd 0 _ = true›; have g5 := inB_iff.1 ‹inB fh 0 _ = true›; have f1 := nx_facts (p := p) (fd := fd) (fh := fh) (by omega) (by omega) ‹nF p fd fh = true›; first | omega | (simp [inB] at *; omega))
                                  ·
                                   have hp90 : AllP (wOpen_p90 B p cd ch swell fd fh) := by
                                    exact ⟨(ltq_f (Int.not_lt.1 q19)), hp89⟩
                                   by_cases q20 : (nD p fd fh : Int) = (fd)
                                   ·
                                    by_cases q21 : (nH p fd fh : Int) < (fh)
                                    ·
                                     exfalso
                                     (have g2 := inB_iff.1 ‹inB cd 0 _ = true›; have g3 := inB_iff.1 ‹inB ch 0 _ = true›; have g4 := inB_iff.1 ‹inB fd 0 _ = true›; have g5 := inB_iff.1 ‹inB fh 0 _ = true›; have f1 := nx_facts (p := p) (fd := fd) (fh := fh) (by omega) (by omega) ‹nF p fd fh = true›; first | omega | (simp [inB] at *; omega))
                                    ·
                                     by_cases q22 : (cd : Int) < (nD p fd fh)
                                     ·
                                      exfalso
                                      (have g6 := inB_iff.1 ‹inB swell _ _ = true›; omega)
                                     ·
                                      by_cases q23 : (cd : Int) = (nD p fd fh)
                                      ·
                                       exfalso
                                       (have g6 := inB_iff.1 ‹inB swell _ _ = true›; omega)
                                      ·
                                       by_cases q24 : ((↑(List.length (hoursL p (nD p fd fh) true 0)) : Int) : Int) ≤ (24)
                                       ·
                                        cases q25 : goesB p (nD p fd fh) (nH p fd fh) (Span.hi (List.getD p.swell (Int.toNat (nD p fd fh)) default)) with
                                        | true =>
                                          try have g2 := inB_iff.1 ‹inB cd 0 _ = true›
                                          try have g3 := inB_iff.1 ‹inB ch 0 _ = true›
                                          try have g4 := inB_iff.1 ‹inB fd 0 _ = true›
                                          try have g5 := inB_iff.1 ‹inB fh 0 _ = true›
                                          try have f1 := nx_facts (p := p) (fd := fd) (fh := fh) (by omega) (by omega) ‹nF p fd fh = true›
                                          exact (GoE.endsT okF hJ mixed_ok GoE.start (wOpen_s38 B p cd ch swell fd fh)
                                           ⟨⟨trivial, known⟩, ⟨⟨trivial, (by have t_ := rHasH (p) (nD p fd fh) (nH p fd fh) (by first | with_reducible assumption | omega | simp_all); rw [q25] at t_; exact t_)⟩, ⟨(nltq_t q24), ⟨(eqq_f q23), ⟨(ltq_f (Int.not_lt.1 q22)), ⟨⟨trivial, (by have t_ := pHours (p) (nD p fd fh); rw [q2, q17] at t_; exact t_)⟩, ⟨(ltq_f (Int.not_lt.1 q21)), ⟨(eqq_t q20), hp90⟩⟩⟩⟩⟩⟩⟩⟩).cast rfl
                                        | false =>
                                          exfalso
                                          (have g2 := inB_iff.1 ‹inB cd 0 _ = true›; have g3 := inB_iff.1 ‹inB ch 0 _ = true›; have g4 := inB_iff.1 ‹inB fd 0 _ = true›; have g5 := inB_iff.1 ‹inB fh 0 _ = true›; have f1 := nx_facts (p := p) (fd := fd) (fh := fh) (by omega) (by omega) ‹nF p fd fh = true›; exact no_tf f1.2.1 (by assumption))
                                       ·
                                        exfalso
                                        (have l1 := hoursL_len p (nD p fd fh) true; omega)
                                   ·
                                    have hp91 : AllP (wOpen_p91 B p cd ch swell fd fh) := by
                                     try have g2 := inB_iff.1 ‹inB cd 0 _ = true›
                                     try have g3 := inB_iff.1 ‹inB ch 0 _ = true›
                                     try have g4 := inB_iff.1 ‹inB fd 0 _ = true›
                                     try have g5 := inB_iff.1 ‹inB fh 0 _ = true›
                                     try have f1 := nx_facts (p := p) (fd := fd) (fh := fh) (by omega) (by omega) ‹nF p fd fh = true›
                                     exact ⟨⟨trivial, (by have t_ := pHours (p) (nD p fd fh); rw [q2, q17] at t_; exact t_)⟩, ⟨(eqq_f q20), hp90⟩⟩
                                    by_cases q21 : (cd : Int) < (nD p fd fh)
                                    ·
                                     by_cases q22 : ((↑(List.length (hoursL p (nD p fd fh) true 0)) : Int) : Int) ≤ (24)
                                     ·
                                      cases q23 : goesB p (nD p fd fh) (nH p fd fh) (Span.hi (List.getD p.swell (Int.toNat (nD p fd fh)) default)) with
                                      | true =>
                                        try have g2 := inB_iff.1 ‹inB cd 0 _ = true›
                                        try have g3 := inB_iff.1 ‹inB ch 0 _ = true›
                                        try have g4 := inB_iff.1 ‹inB fd 0 _ = true›
                                        try have g5 := inB_iff.1 ‹inB fh 0 _ = true›
                                        try have f1 := nx_facts (p := p) (fd := fd) (fh := fh) (by omega) (by omega) ‹nF p fd fh = true›
                                        exact (GoE.endsT okF hJ mixed_ok GoE.start (wOpen_s39 B p cd ch swell fd fh)
                                         ⟨⟨trivial, known⟩, ⟨⟨trivial, (by have t_ := rHasH (p) (nD p fd fh) (nH p fd fh) (by first | with_reducible assumption | omega | simp_all); rw [q23] at t_; exact t_)⟩, ⟨(nltq_t q22), ⟨(ltq_t q21), hp91⟩⟩⟩⟩).cast rfl
                                      | false =>
                                        exfalso
                                        (have g2 := inB_iff.1 ‹inB cd 0 _ = true›; have g3 := inB_iff.1 ‹inB ch 0 _ = true›; have g4 := inB_iff.1 ‹inB fd 0 _ = true›; have g5 := inB_iff.1 ‹inB fh 0 _ = true›; have f1 := nx_facts (p := p) (fd := fd) (fh := fh) (by omega) (by omega) ‹nF p fd fh = true›; exact no_tf f1.2.1 (by assumption))
                                     ·
                                      exfalso
                                      (have l1 := hoursL_len p (nD p fd fh) true; omega)
                                    ·
                                     have hp92 : AllP (wOpen_p92 B p cd ch swell fd fh) := by
                                      exact ⟨(ltq_f (Int.not_lt.1 q21)), hp91⟩
                                     by_cases q22 : (cd : Int) = (nD p fd fh)
                                     ·
                                      have hp93 : AllP (wOpen_p93 B p cd ch swell fd fh) := by
                                       exact ⟨(eqq_t q22), hp92⟩
                                      by_cases q23 : (ch : Int) < (nH p fd fh)
                                      ·
                                       by_cases q24 : ((↑(List.length (hoursL p (nD p fd fh) true 0)) : Int) : Int) ≤ (24)
                                       ·
                                        cases q25 : goesB p (nD p fd fh) (nH p fd fh) (Span.hi (List.getD p.swell (Int.toNat (nD p fd fh)) default)) with
                                        | true =>
                                          try have g2 := inB_iff.1 ‹inB cd 0 _ = true›
                                          try have g3 := inB_iff.1 ‹inB ch 0 _ = true›
                                          try have g4 := inB_iff.1 ‹inB fd 0 _ = true›
                                          try have g5 := inB_iff.1 ‹inB fh 0 _ = true›
                                          try have f1 := nx_facts (p := p) (fd := fd) (fh := fh) (by omega) (by omega) ‹nF p fd fh = true›
                                          exact (GoE.endsT okF hJ mixed_ok GoE.start (wOpen_s40 B p cd ch swell fd fh)
                                           ⟨⟨trivial, known⟩, ⟨⟨trivial, (by have t_ := rHasH (p) (nD p fd fh) (nH p fd fh) (by first | with_reducible assumption | omega | simp_all); rw [q25] at t_; exact t_)⟩, ⟨(nltq_t q24), ⟨(ltq_t q23), hp93⟩⟩⟩⟩).cast rfl
                                        | false =>
                                          exfalso
                                          (have g2 := inB_iff.1 ‹inB cd 0 _ = true›; have g3 := inB_iff.1 ‹inB ch 0 _ = true›; have g4 := inB_iff.1 ‹inB fd 0 _ = true›; have g5 := inB_iff.1 ‹inB fh 0 _ = true›; have f1 := nx_facts (p := p) (fd := fd) (fh := fh) (by omega) (by omega) ‹nF p fd fh = true›; exact no_tf f1.2.1 (by assumption))
                                       ·
                                        exfalso
                                        (have l1 := hoursL_len p (nD p fd fh) true; omega)
                                      ·
                                       by_cases q24 : ((↑(List.length (hoursL p (nD p fd fh) true 0)) : Int) : Int) ≤ (24)
                                       ·
                                        cases q25 : goesB p (nD p fd fh) (nH p fd fh) (Span.hi (List.getD p.swell (Int.toNat (nD p fd fh)) default)) with
                                        | true =>
                                          try have g2 := inB_iff.1 ‹inB cd 0 _ = true›
                                          try have g3 := inB_iff.1 ‹inB ch 0 _ = true›
                                          try have g4 := inB_iff.1 ‹inB fd 0 _ = true›
                                          try have g5 := inB_iff.1 ‹inB fh 0 _ = true›
                                          try have f1 := nx_facts (p := p) (fd := fd) (fh := fh) (by omega) (by omega) ‹nF p fd fh = true›
                                          exact (GoE.endsT okF hJ mixed_ok GoE.start (wOpen_s41 B p cd ch swell fd fh)
                                           ⟨⟨trivial, known⟩, ⟨⟨trivial, (by have t_ := rHasH (p) (nD p fd fh) (nH p fd fh) (by first | with_reducible assumption | omega | simp_all); rw [q25] at t_; exact t_)⟩, ⟨(nltq_t q24), ⟨(ltq_f (Int.not_lt.1 q23)), hp93⟩⟩⟩⟩).cast rfl
                                        | false =>
                                          exfalso
                                          (have g2 := inB_iff.1 ‹inB cd 0 _ = true›; have g3 := inB_iff.1 ‹inB ch 0 _ = true›; have g4 := inB_iff.1 ‹inB fd 0 _ = true›; have g5 := inB_iff.1 ‹inB fh 0 _ = true›; have f1 := nx_facts (p := p) (fd := fd) (fh := fh) (by omega) (by omega) ‹nF p fd fh = true›; exact no_tf f1.2.1 (by assumption))
                                       ·
                                        exfalso
                                        (have l1 := hoursL_len p (nD p fd fh) true; omega)
                                     ·
                                      by_cases q23 : ((↑(List.length (hoursL p (nD p fd fh) true 0)) : Int) : Int) ≤ (24)
                                      ·
                                       cases q24 : goesB p (nD p fd fh) (nH p fd fh) (Span.hi (List.getD p.swell (Int.toNat (nD p fd fh)) default)) with
                                       | true =>
                                         try have g2 := inB_iff.1 ‹inB cd 0 _ = true›
                                         try have g3 := inB_iff.1 ‹inB ch 0 _ = true›
                                         try have g4 := inB_iff.1 ‹inB fd 0 _ = true›
                                         try have g5 := inB_iff.1 ‹inB fh 0 _ = true›
                                         try have f1 := nx_facts (p := p) (fd := fd) (fh := fh) (by omega) (by omega) ‹nF p fd fh = true›
                                         exact (GoE.endsT okF hJ mixed_ok GoE.start (wOpen_s42 B p cd ch swell fd fh)
                                          ⟨⟨trivial, known⟩, ⟨⟨trivial, (by have t_ := rHasH (p) (nD p fd fh) (nH p fd fh) (by first | with_reducible assumption | omega | simp_all); rw [q24] at t_; exact t_)⟩, ⟨(nltq_t q23), ⟨(eqq_f q22), hp92⟩⟩⟩⟩).cast rfl
                                       | false =>
                                         exfalso
                                         (have g2 := inB_iff.1 ‹inB cd 0 _ = true›; have g3 := inB_iff.1 ‹inB ch 0 _ = true›; have g4 := inB_iff.1 ‹inB fd 0 _ = true›; have g5 := inB_iff.1 ‹inB fh 0 _ = true›; have f1 := nx_facts (p := p) (fd := fd) (fh := fh) (by omega) (by omega) ‹nF p fd fh = true›; exact no_tf f1.2.1 (by assumption))
                                      ·
                                       exfalso
                                       (have l1 := hoursL_len p (nD p fd fh) true; omega)
                                | false =>
                                  exfalso
                                  (have g2 := inB_iff.1 ‹inB cd 0 _ = true›; have g3 := inB_iff.1 ‹inB ch 0 _ = true›; have g4 := inB_iff.1 ‹inB fd 0 _ = true›; have g5 := inB_iff.1 ‹inB fh 0 _ = true›; have f1 := nx_facts (p := p) (fd := fd) (fh := fh) (by omega) (by omega) ‹nF p fd fh = true›; first | omega | (simp [inB] at *; omega))
                              | false =>
                                exfalso
                                (have g2 := inB_iff.1 ‹inB cd 0 _ = true›; have g3 := inB_iff.1 ‹inB ch 0 _ = true›; have g4 := inB_iff.1 ‹inB fd 0 _ = true›; have g5 := inB_iff.1 ‹inB fh 0 _ = true›; have f1 := nx_facts (p := p) (fd := fd) (fh := fh) (by omega) (by omega) ‹nF p fd fh = true›; first | omega | (simp [inB] at *; omega))
                             ·
                              have hp94 : AllP (wOpen_p94 B p cd ch swell fd fh) := by
                               exact ⟨(ltq_f (Int.not_lt.1 q16)), hp87⟩
                              by_cases q17 : (cd : Int) = (fd)
                              ·
                               have hp95 : AllP (wOpen_p95 B p cd ch swell fd fh) := by
                                exact ⟨(eqq_t q17), hp94⟩
                               by_cases q18 : (fh : Int) ≤ (ch)
                               ·
                                have hp96 : AllP (wOpen_p96 B p cd ch swell fd fh) := by
                                 exact ⟨(nltq_t q18), hp95⟩
                                cases q19 : inB (nD p fd fh) 0 ((↑p.swell.length : Int) - 1) with
                                | true =>
                                  cases q20 : inB (nH p fd fh) 0 23 with
                                  | true =>
                                    have hp97 : AllP (wOpen_p97 B p cd ch swell fd fh) := by
                                     try have g2 := inB_iff.1 ‹inB cd 0 _ = true›
                                     try have g3 := inB_iff.1 ‹inB ch 0 _ = true›
                                     try have g4 := inB_iff.1 ‹inB fd 0 _ = true›
                                     try have g5 := inB_iff.1 ‹inB fh 0 _ = true›
                                     try have f1 := nx_facts (p := p) (fd := fd) (fh := fh) (by omega) (by omega) ‹nF p fd fh = true›
                                     exact ⟨⟨trivial, (by have t_ := rCall (p) (nD p fd fh) (nH p fd fh); rw [q19, q20] at t_; exact t_)⟩, hp96⟩
                                    by_cases q21 : (nD p fd fh : Int) < (fd)
                                    ·
                                     exfalso
                                     (have g2 := inB_iff.1 ‹inB cd 0 _ = true›; have g3 := inB_iff.1 ‹inB ch 0 _ = true›; have g4 := inB_iff.1 ‹inB fd 0 _ = true›; have g5 := inB_iff.1 ‹inB fh 0 _ = true›; have f1 := nx_facts (p := p) (fd := fd) (fh := fh) (by omega) (by omega) ‹nF p fd fh = true›; first | omega | (simp [inB] at *; omega))
                                    ·
                                     have hp98 : AllP (wOpen_p98 B p cd ch swell fd fh) := by
                                      exact ⟨(ltq_f (Int.not_lt.1 q21)), hp97⟩
                                     by_cases q22 : (nD p fd fh : Int) = (fd)
                                     ·
                                      have hp99 : AllP (wOpen_p99 B p cd ch swell fd fh) := by
                                       exact ⟨(eqq_t q22), hp98⟩
                                      by_cases q23 : (nH p fd fh : Int) < (fh)
                                      ·
                                       exfalso
                                       (have g2 := inB_iff.1 ‹inB cd 0 _ = true›; have g3 := inB_iff.1 ‹inB ch 0 _ = true›; have g4 := inB_iff.1 ‹inB fd 0 _ = true›; have g5 := inB_iff.1 ‹inB fh 0 _ = true›; have f1 := nx_facts (p := p) (fd := fd) (fh := fh) (by omega) (by omega) ‹nF p fd fh = true›; first | omega | (simp [inB] at *; omega))
                                      ·
                                       have hp100 : AllP (wOpen_p100 B p cd ch swell fd fh) := by
                                        try have g2 := inB_iff.1 ‹inB cd 0 _ = true›
                                        try have g3 := inB_iff.1 ‹inB ch 0 _ = true›
                                        try have g4 := inB_iff.1 ‹inB fd 0 _ = true›
                                        try have g5 := inB_iff.1 ‹inB fh 0 _ = true›
                                        try have f1 := nx_facts (p := p) (fd := fd) (fh := fh) (by omega) (by omega) ‹nF p fd fh = true›
                                        exact ⟨⟨trivial, (by have t_ := pHours (p) (nD p fd fh); rw [q2, q19] at t_; exact t_)⟩, ⟨(ltq_f (Int.not_lt.1 q23)), hp99⟩⟩
                                       by_cases q24 : (cd : Int) < (nD p fd fh)
                                       ·
                                        exfalso
                                        (have g6 := inB_iff.1 ‹inB swell _ _ = true›; omega)
                                       ·
                                        have hp101 : AllP (wOpen_p101 B p cd ch swell fd fh) := by
                                         exact ⟨(ltq_f (Int.not_lt.1 q24)), hp100⟩
                                        by_cases q25 : (cd : Int) = (nD p fd fh)
                                        ·
                                         have hp102 : AllP (wOpen_p102 B p cd ch swell fd fh) := by
                                          exact ⟨(eqq_t q25), hp101⟩
                                         by_cases q26 : (ch : Int) < (nH p fd fh)
                                         ·
                                          by_cases q27 : ((↑(List.length (hoursL p (nD p fd fh) true 0)) : Int) : Int) ≤ (24)
                                          ·
                                           cases q28 : goesB p (nD p fd fh) (nH p fd fh) (Span.hi (List.getD p.swell (Int.toNat (nD p fd fh)) default)) with
                                           | true =>
                                             try have g2 := inB_iff.1 ‹inB cd 0 _ = true›
                                             try have g3 := inB_iff.1 ‹inB ch 0 _ = true›
                                             try have g4 := inB_iff.1 ‹inB fd 0 _ = true›
                                             try have g5 := inB_iff.1 ‹inB fh 0 _ = true›
                                             try have f1 := nx_facts (p := p) (fd := fd) (fh := fh) (by omega) (by omega) ‹nF p fd fh = true›
                                             exact (GoE.endsT okF hJ mixed_ok GoE.start (wOpen_s43 B p cd ch swell fd fh)
                                              ⟨⟨trivial, known⟩, ⟨⟨trivial, (by have t_ := rHasH (p) (nD p fd fh) (nH p fd fh) (by first | with_reducible assumption | omega | simp_all); rw [q28] at t_; exact t_)⟩, ⟨(nltq_t q27), ⟨(ltq_t q26), hp102⟩⟩⟩⟩).cast rfl
                                           | false =>
                                             exfalso
                                             (have g2 := inB_iff.1 ‹inB cd 0 _ = true›; have g3 := inB_iff.1 ‹inB ch 0 _ = true›; have g4 := inB_iff.1 ‹inB fd 0 _ = true›; have g5 := inB_iff.1 ‹inB fh 0 _ = true›; have f1 := nx_facts (p := p) (fd := fd) (fh := fh) (by omega) (by omega) ‹nF p fd fh = true›; exact no_tf f1.2.1 (by assumption))
                                          ·
                                           exfalso
                                           (have l1 := hoursL_len p (nD p fd fh) true; omega)
                                         ·
                                          by_cases q27 : ((↑(List.length (hoursL p (nD p fd fh) true 0)) : Int) : Int) ≤ (24)
                                          ·
                                           cases q28 : goesB p (nD p fd fh) (nH p fd fh) (Span.hi (List.getD p.swell (Int.toNat (nD p fd fh)) default)) with
                                           | true =>
                                             try have g2 := inB_iff.1 ‹inB cd 0 _ = true›
                                             try have g3 := inB_iff.1 ‹inB ch 0 _ = true›
                                             try have g4 := inB_iff.1 ‹inB fd 0 _ = true›
                                             try have g5 := inB_iff.1 ‹inB fh 0 _ = true›
                                             try have f1 := nx_facts (p := p) (fd := fd) (fh := fh) (by omega) (by omega) ‹nF p fd fh = true›
                                             exact (GoE.endsT okF hJ mixed_ok GoE.start (wOpen_s44 B p cd ch swell fd fh)
                                              ⟨⟨trivial, known⟩, ⟨⟨trivial, (by have t_ := rHasH (p) (nD p fd fh) (nH p fd fh) (by first | with_reducible assumption | omega | simp_all); rw [q28] at t_; exact t_)⟩, ⟨(nltq_t q27), ⟨(ltq_f (Int.not_lt.1 q26)), hp102⟩⟩⟩⟩).cast rfl
                                           | false =>
                                             exfalso
                                             (have g2 := inB_iff.1 ‹inB cd 0 _ = true›; have g3 := inB_iff.1 ‹inB ch 0 _ = true›; have g4 := inB_iff.1 ‹inB fd 0 _ = true›; have g5 := inB_iff.1 ‹inB fh 0 _ = true›; have f1 := nx_facts (p := p) (fd := fd) (fh := fh) (by omega) (by omega) ‹nF p fd fh = true›; exact no_tf f1.2.1 (by assumption))
                                          ·
                                           exfalso
                                           (have l1 := hoursL_len p (nD p fd fh) true; omega)
                                        ·
                                         exfalso
                                         (have g6 := inB_iff.1 ‹inB swell _ _ = true›; omega)
                                     ·
                                      by_cases q23 : (cd : Int) < (nD p fd fh)
                                      ·
                                       by_cases q24 : ((↑(List.length (hoursL p (nD p fd fh) true 0)) : Int) : Int) ≤ (24)
                                       ·
                                        cases q25 : goesB p (nD p fd fh) (nH p fd fh) (Span.hi (List.getD p.swell (Int.toNat (nD p fd fh)) default)) with
                                        | true =>
                                          try have g2 := inB_iff.1 ‹inB cd 0 _ = true›
                                          try have g3 := inB_iff.1 ‹inB ch 0 _ = true›
                                          try have g4 := inB_iff.1 ‹inB fd 0 _ = true›
                                          try have g5 := inB_iff.1 ‹inB fh 0 _ = true›
                                          try have f1 := nx_facts (p := p) (fd := fd) (fh := fh) (by omega) (by omega) ‹nF p fd fh = true›
                                          exact (GoE.endsT okF hJ mixed_ok GoE.start (wOpen_s45 B p cd ch swell fd fh)
                                           ⟨⟨trivial, known⟩, ⟨⟨trivial, (by have t_ := rHasH (p) (nD p fd fh) (nH p fd fh) (by first | with_reducible assumption | omega | simp_all); rw [q25] at t_; exact t_)⟩, ⟨(nltq_t q24), ⟨(ltq_t q23), ⟨⟨trivial, (by have t_ := pHours (p) (nD p fd fh); rw [q2, q19] at t_; exact t_)⟩, ⟨(eqq_f q22), hp98⟩⟩⟩⟩⟩⟩).cast rfl
                                        | false =>
                                          exfalso
                                          (have g2 := inB_iff.1 ‹inB cd 0 _ = true›; have g3 := inB_iff.1 ‹inB ch 0 _ = true›; have g4 := inB_iff.1 ‹inB fd 0 _ = true›; have g5 := inB_iff.1 ‹inB fh 0 _ = true›; have f1 := nx_facts (p := p) (fd := fd) (fh := fh) (by omega) (by omega) ‹nF p fd fh = true›; exact no_tf f1.2.1 (by assumption))
                                       ·
                                        exfalso
                                        (have l1 := hoursL_len p (nD p fd fh) true; omega)
                                      ·
                                       exfalso
                                       (have g6 := inB_iff.1 ‹inB swell _ _ = true›; omega)
                                  | false =>
                                    exfalso
                                    (have g2 := inB_iff.1 ‹inB cd 0 _ = true›; have g3 := inB_iff.1 ‹inB ch 0 _ = true›; have g4 := inB_iff.1 ‹inB fd 0 _ = true›; have g5 := inB_iff.1 ‹inB fh 0 _ = true›; have f1 := nx_facts (p := p) (fd := fd) (fh := fh) (by omega) (by omega) ‹nF p fd fh = true›; first | omega | (simp [inB] at *; omega))
                                | false =>
                                  exfalso
                                  (have g2 := inB_iff.1 ‹inB cd 0 _ = true›; have g3 := inB_iff.1 ‹inB ch 0 _ = true›; have g4 := inB_iff.1 ‹inB fd 0 _ = true›; have g5 := inB_iff.1 ‹inB fh 0 _ = true›; have f1 := nx_facts (p := p) (fd := fd) (fh := fh) (by omega) (by omega) ‹nF p fd fh = true›; first | omega | (simp [inB] at *; omega))
                               ·
                                have hp103 : AllP (wOpen_p103 B p cd ch swell fd fh) := by
                                 exact ⟨(nltq_f (Int.not_le.1 q18)), hp95⟩
                                cases q19 : inB (nD p fd fh) 0 ((↑p.swell.length : Int) - 1) with
                                | true =>
                                  cases q20 : inB (nH p fd fh) 0 23 with
                                  | true =>
                                    have hp104 : AllP (wOpen_p104 B p cd ch swell fd fh) := by
                                     try have g2 := inB_iff.1 ‹inB cd 0 _ = true›
                                     try have g3 := inB_iff.1 ‹inB ch 0 _ = true›
                                     try have g4 := inB_iff.1 ‹inB fd 0 _ = true›
                                     try have g5 := inB_iff.1 ‹inB fh 0 _ = true›
                                     try have f1 := nx_facts (p := p) (fd := fd) (fh := fh) (by omega) (by omega) ‹nF p fd fh = true›
                                     exact ⟨⟨trivial, (by have t_ := rCall (p) (nD p fd fh) (nH p fd fh); rw [q19, q20] at t_; exact t_)⟩, hp103⟩
                                    by_cases q21 : (nD p fd fh : Int) < (fd)
                                    ·
                                     exfalso
                                     (have g2 := inB_iff.1 ‹inB cd 0 _ = true›; have g3 := inB_iff.1 ‹inB ch 0 _ = true›; have g4 := inB_iff.1 ‹inB fd 0 _ = true›; have g5 := inB_iff.1 ‹inB fh 0 _ = true›; have f1 := nx_facts (p := p) (fd := fd) (fh := fh) (by omega) (by omega) ‹nF p fd fh = true›; first | omega | (simp [inB] at *; omega))
                                    ·
                                     have hp105 : AllP (wOpen_p105 B p cd ch swell fd fh) := by
                                      exact ⟨(ltq_f (Int.not_lt.1 q21)), hp104⟩
                                     by_cases q22 : (nD p fd fh : Int) = (fd)
                                     ·
                                      by_cases q23 : (nH p fd fh : Int) < (fh)
                                      ·
                                       exfalso
                                       (have g2 := inB_iff.1 ‹inB cd 0 _ = true›; have g3 := inB_iff.1 ‹inB ch 0 _ = true›; have g4 := inB_iff.1 ‹inB fd 0 _ = true›; have g5 := inB_iff.1 ‹inB fh 0 _ = true›; have f1 := nx_facts (p := p) (fd := fd) (fh := fh) (by omega) (by omega) ‹nF p fd fh = true›; first | omega | (simp [inB] at *; omega))
                                      ·
                                       by_cases q24 : (cd : Int) < (nD p fd fh)
                                       ·
                                        exfalso
                                        (have g6 := inB_iff.1 ‹inB swell _ _ = true›; omega)
                                       ·
                                        by_cases q25 : (cd : Int) = (nD p fd fh)
                                        ·
                                         by_cases q26 : (ch : Int) < (nH p fd fh)
                                         ·
                                          by_cases q27 : ((↑(List.length (hoursL p (nD p fd fh) true 0)) : Int) : Int) ≤ (24)
                                          ·
                                           cases q28 : goesB p (nD p fd fh) (nH p fd fh) (Span.hi (List.getD p.swell (Int.toNat (nD p fd fh)) default)) with
                                           | true =>
                                             try have g2 := inB_iff.1 ‹inB cd 0 _ = true›
                                             try have g3 := inB_iff.1 ‹inB ch 0 _ = true›
                                             try have g4 := inB_iff.1 ‹inB fd 0 _ = true›
                                             try have g5 := inB_iff.1 ‹inB fh 0 _ = true›
                                             try have f1 := nx_facts (p := p) (fd := fd) (fh := fh) (by omega) (by omega) ‹nF p fd fh = true›
                                             exact (GoE.endsT okF hJ mixed_ok GoE.start (wOpen_s46 B p cd ch swell fd fh)
                                              ⟨⟨trivial, known⟩, ⟨⟨trivial, (by have t_ := rHasH (p) (nD p fd fh) (nH p fd fh) (by first | with_reducible assumption | omega | simp_all); rw [q28] at t_; exact t_)⟩, ⟨(nltq_t q27), ⟨(ltq_t q26), ⟨(eqq_t q25), ⟨(ltq_f (Int.not_lt.1 q24)), ⟨⟨trivial, (by have t_ := pHours (p) (nD p fd fh); rw [q2, q19] at t_; exact t_)⟩, ⟨(ltq_f (Int.not_lt.1 q23)), ⟨(eqq_t q22), hp105⟩⟩⟩⟩⟩⟩⟩⟩⟩).cast rfl
                                           | false =>
                                             exfalso
                                             (have g2 := inB_iff.1 ‹inB cd 0 _ = true›; have g3 := inB_iff.1 ‹inB ch 0 _ = true›; have g4 := inB_iff.1 ‹inB fd 0 _ = true›; have g5 := inB_iff.1 ‹inB fh 0 _ = true›; have f1 := nx_facts (p := p) (fd := fd) (fh := fh) (by omega) (by omega) ‹nF p fd fh = true›; exact no_tf f1.2.1 (by assumption))
                                          ·
                                           exfalso
                                           (have l1 := hoursL_len p (nD p fd fh) true; omega)
                                         ·
                                          exfalso
                                          (have g6 := inB_iff.1 ‹inB swell _ _ = true›; omega)
                                        ·
                                         exfalso
                                         (have g6 := inB_iff.1 ‹inB swell _ _ = true›; omega)
                                     ·
                                      by_cases q23 : (cd : Int) < (nD p fd fh)
                                      ·
                                       by_cases q24 : ((↑(List.length (hoursL p (nD p fd fh) true 0)) : Int) : Int) ≤ (24)
                                       ·
                                        cases q25 : goesB p (nD p fd fh) (nH p fd fh) (Span.hi (List.getD p.swell (Int.toNat (nD p fd fh)) default)) with
                                        | true =>
                                          try have g2 := inB_iff.1 ‹inB cd 0 _ = true›
                                          try have g3 := inB_iff.1 ‹inB ch 0 _ = true›
                                          try have g4 := inB_iff.1 ‹inB fd 0 _ = true›
                                          try have g5 := inB_iff.1 ‹inB fh 0 _ = true›
                                          try have f1 := nx_facts (p := p) (fd := fd) (fh := fh) (by omega) (by omega) ‹nF p fd fh = true›
                                          exact (GoE.endsT okF hJ mixed_ok GoE.start (wOpen_s47 B p cd ch swell fd fh)
                                           ⟨⟨trivial, known⟩, ⟨⟨trivial, (by have t_ := rHasH (p) (nD p fd fh) (nH p fd fh) (by first | with_reducible assumption | omega | simp_all); rw [q25] at t_; exact t_)⟩, ⟨(nltq_t q24), ⟨(ltq_t q23), ⟨⟨trivial, (by have t_ := pHours (p) (nD p fd fh); rw [q2, q19] at t_; exact t_)⟩, ⟨(eqq_f q22), hp105⟩⟩⟩⟩⟩⟩).cast rfl
                                        | false =>
                                          exfalso
                                          (have g2 := inB_iff.1 ‹inB cd 0 _ = true›; have g3 := inB_iff.1 ‹inB ch 0 _ = true›; have g4 := inB_iff.1 ‹inB fd 0 _ = true›; have g5 := inB_iff.1 ‹inB fh 0 _ = true›; have f1 := nx_facts (p := p) (fd := fd) (fh := fh) (by omega) (by omega) ‹nF p fd fh = true›; exact no_tf f1.2.1 (by assumption))
                                       ·
                                        exfalso
                                        (have l1 := hoursL_len p (nD p fd fh) true; omega)
                                      ·
                                       exfalso
                                       (have g6 := inB_iff.1 ‹inB swell _ _ = true›; omega)
                                  | false =>
                                    exfalso
                                    (have g2 := inB_iff.1 ‹inB cd 0 _ = true›; have g3 := inB_iff.1 ‹inB ch 0 _ = true›; have g4 := inB_iff.1 ‹inB fd 0 _ = true›; have g5 := inB_iff.1 ‹inB fh 0 _ = true›; have f1 := nx_facts (p := p) (fd := fd) (fh := fh) (by omega) (by omega) ‹nF p fd fh = true›; first | omega | (simp [inB] at *; omega))
                                | false =>
                                  exfalso
                                  (have g2 := inB_iff.1 ‹inB cd 0 _ = true›; have g3 := inB_iff.1 ‹inB ch 0 _ = true›; have g4 := inB_iff.1 ‹inB fd 0 _ = true›; have g5 := inB_iff.1 ‹inB fh 0 _ = true›; have f1 := nx_facts (p := p) (fd := fd) (fh := fh) (by omega) (by omega) ‹nF p fd fh = true›; first | omega | (simp [inB] at *; omega))
                              ·
                               have hp106 : AllP (wOpen_p106 B p cd ch swell fd fh) := by
                                exact ⟨(eqq_f q17), hp94⟩
                               cases q18 : inB (nD p fd fh) 0 ((↑p.swell.length : Int) - 1) with
                               | true =>
                                 cases q19 : inB (nH p fd fh) 0 23 with
                                 | true =>
                                   have hp107 : AllP (wOpen_p107 B p cd ch swell fd fh) := by
                                    try have g2 := inB_iff.1 ‹inB cd 0 _ = true›
                                    try have g3 := inB_iff.1 ‹inB ch 0 _ = true›
                                    try have g4 := inB_iff.1 ‹inB fd 0 _ = true›
                                    try have g5 := inB_iff.1 ‹inB fh 0 _ = true›
                                    try have f1 := nx_facts (p := p) (fd := fd) (fh := fh) (by omega) (by omega) ‹nF p fd fh = true›
                                    exact ⟨⟨trivial, (by have t_ := rCall (p) (nD p fd fh) (nH p fd fh); rw [q18, q19] at t_; exact t_)⟩, hp106⟩
                                   by_cases q20 : (nD p fd fh : Int) < (fd)
                                   ·
                                    exfalso
                                    (have g2 := inB_iff.1 ‹inB cd 0 _ = true›; have g3 := inB_iff.1 ‹inB ch 0 _ = true›; have g4 := inB_iff.1 ‹inB fd 0 _ = true›; have g5 := inB_iff.1 ‹inB fh 0 _ = true›; have f1 := nx_facts (p := p) (fd := fd) (fh := fh) (by omega) (by omega) ‹nF p fd fh = true›; first | omega | (simp [inB] at *; omega))
                                   ·
                                    have hp108 : AllP (wOpen_p108 B p cd ch swell fd fh) := by
                                     exact ⟨(ltq_f (Int.not_lt.1 q20)), hp107⟩
                                    by_cases q21 : (nD p fd fh : Int) = (fd)
                                    ·
                                     by_cases q22 : (nH p fd fh : Int) < (fh)
                                     ·
                                      exfalso
                                      (have g2 := inB_iff.1 ‹inB cd 0 _ = true›; have g3 := inB_iff.1 ‹inB ch 0 _ = true›; have g4 := inB_iff.1 ‹inB fd 0 _ = true›; have g5 := inB_iff.1 ‹inB fh 0 _ = true›; have f1 := nx_facts (p := p) (fd := fd) (fh := fh) (by omega) (by omega) ‹nF p fd fh = true›; first | omega | (simp [inB] at *; omega))
                                     ·
                                      by_cases q23 : (cd : Int) < (nD p fd fh)
                                      ·
                                       by_cases q24 : ((↑(List.length (hoursL p (nD p fd fh) true 0)) : Int) : Int) ≤ (24)
                                       ·
                                        cases q25 : goesB p (nD p fd fh) (nH p fd fh) (Span.hi (List.getD p.swell (Int.toNat (nD p fd fh)) default)) with
                                        | true =>
                                          try have g2 := inB_iff.1 ‹inB cd 0 _ = true›
                                          try have g3 := inB_iff.1 ‹inB ch 0 _ = true›
                                          try have g4 := inB_iff.1 ‹inB fd 0 _ = true›
                                          try have g5 := inB_iff.1 ‹inB fh 0 _ = true›
                                          try have f1 := nx_facts (p := p) (fd := fd) (fh := fh) (by omega) (by omega) ‹nF p fd fh = true›
                                          exact (GoE.endsT okF hJ mixed_ok GoE.start (wOpen_s48 B p cd ch swell fd fh)
                                           ⟨⟨trivial, known⟩, ⟨⟨trivial, (by have t_ := rHasH (p) (nD p fd fh) (nH p fd fh) (by first | with_reducible assumption | omega | simp_all); rw [q25] at t_; exact t_)⟩, ⟨(nltq_t q24), ⟨(ltq_t q23), ⟨⟨trivial, (by have t_ := pHours (p) (nD p fd fh); rw [q2, q18] at t_; exact t_)⟩, ⟨(ltq_f (Int.not_lt.1 q22)), ⟨(eqq_t q21), hp108⟩⟩⟩⟩⟩⟩⟩).cast rfl
                                        | false =>
                                          exfalso
                                          (have g2 := inB_iff.1 ‹inB cd 0 _ = true›; have g3 := inB_iff.1 ‹inB ch 0 _ = true›; have g4 := inB_iff.1 ‹inB fd 0 _ = true›; have g5 := inB_iff.1 ‹inB fh 0 _ = true›; have f1 := nx_facts (p := p) (fd := fd) (fh := fh) (by omega) (by omega) ‹nF p fd fh = true›; exact no_tf f1.2.1 (by assumption))
                                       ·
                                        exfalso
                                        (have l1 := hoursL_len p (nD p fd fh) true; omega)
                                      ·
                                       exfalso
                                       (have g6 := inB_iff.1 ‹inB swell _ _ = true›; omega)
                                    ·
                                     by_cases q22 : (cd : Int) < (nD p fd fh)
                                     ·
                                      by_cases q23 : ((↑(List.length (hoursL p (nD p fd fh) true 0)) : Int) : Int) ≤ (24)
                                      ·
                                       cases q24 : goesB p (nD p fd fh) (nH p fd fh) (Span.hi (List.getD p.swell (Int.toNat (nD p fd fh)) default)) with
                                       | true =>
                                         try have g2 := inB_iff.1 ‹inB cd 0 _ = true›
                                         try have g3 := inB_iff.1 ‹inB ch 0 _ = true›
                                         try have g4 := inB_iff.1 ‹inB fd 0 _ = true›
                                         try have g5 := inB_iff.1 ‹inB fh 0 _ = true›
                                         try have f1 := nx_facts (p := p) (fd := fd) (fh := fh) (by omega) (by omega) ‹nF p fd fh = true›
                                         exact (GoE.endsT okF hJ mixed_ok GoE.start (wOpen_s49 B p cd ch swell fd fh)
                                          ⟨⟨trivial, known⟩, ⟨⟨trivial, (by have t_ := rHasH (p) (nD p fd fh) (nH p fd fh) (by first | with_reducible assumption | omega | simp_all); rw [q24] at t_; exact t_)⟩, ⟨(nltq_t q23), ⟨(ltq_t q22), ⟨⟨trivial, (by have t_ := pHours (p) (nD p fd fh); rw [q2, q18] at t_; exact t_)⟩, ⟨(eqq_f q21), hp108⟩⟩⟩⟩⟩⟩).cast rfl
                                       | false =>
                                         exfalso
                                         (have g2 := inB_iff.1 ‹inB cd 0 _ = true›; have g3 := inB_iff.1 ‹inB ch 0 _ = true›; have g4 := inB_iff.1 ‹inB fd 0 _ = true›; have g5 := inB_iff.1 ‹inB fh 0 _ = true›; have f1 := nx_facts (p := p) (fd := fd) (fh := fh) (by omega) (by omega) ‹nF p fd fh = true›; exact no_tf f1.2.1 (by assumption))
                                      ·
                                       exfalso
                                       (have l1 := hoursL_len p (nD p fd fh) true; omega)
                                     ·
                                      exfalso
                                      (have g6 := inB_iff.1 ‹inB swell _ _ = true›; omega)
                                 | false =>
                                   exfalso
                                   (have g2 := inB_iff.1 ‹inB cd 0 _ = true›; have g3 := inB_iff.1 ‹inB ch 0 _ = true›; have g4 := inB_iff.1 ‹inB fd 0 _ = true›; have g5 := inB_iff.1 ‹inB fh 0 _ = true›; have f1 := nx_facts (p := p) (fd := fd) (fh := fh) (by omega) (by omega) ‹nF p fd fh = true›; first | omega | (simp [inB] at *; omega))
                               | false =>
                                 exfalso
                                 (have g2 := inB_iff.1 ‹inB cd 0 _ = true›; have g3 := inB_iff.1 ‹inB ch 0 _ = true›; have g4 := inB_iff.1 ‹inB fd 0 _ = true›; have g5 := inB_iff.1 ‹inB fh 0 _ = true›; have f1 := nx_facts (p := p) (fd := fd) (fh := fh) (by omega) (by omega) ‹nF p fd fh = true›; first | omega | (simp [inB] at *; omega))
                     | false =>
                       have hp109 : AllP (wOpen_p109 B p cd ch swell fd fh) := by
                        try have g2 := inB_iff.1 ‹inB cd 0 _ = true›
                        try have g3 := inB_iff.1 ‹inB ch 0 _ = true›
                        try have g4 := inB_iff.1 ‹inB fd 0 _ = true›
                        try have g5 := inB_iff.1 ‹inB fh 0 _ = true›
                        try have f1 := nx_facts (p := p) (fd := fd) (fh := fh) (by omega) (by omega) ‹nF p fd fh = true›
                        exact ⟨⟨trivial, (by have t_ := pNext3 (p) (fd) (fh); rw [q2, q5, q6, q11] at t_; exact t_)⟩, hp60⟩
                       by_cases q12 : (24 : Int) < ((↑(List.length (hoursL p cd true 0)) : Int))
                       ·
                        exfalso
                        (have l1 := hoursL_len p cd true; omega)
                       ·
                        have hp110 : AllP (wOpen_p110 B p cd ch swell fd fh) := by
                         exact ⟨(ltq_f (Int.not_lt.1 q12)), hp109⟩
                        by_cases q13 : (24 : Int) < ((↑(List.length (hoursL p cd false 0)) : Int))
                        ·
                         exfalso
                         (have l1 := hoursL_len p cd false; omega)
                        ·
                         have hp111 : AllP (wOpen_p111 B p cd ch swell fd fh) := by
                          exact ⟨(ltq_f (Int.not_lt.1 q13)), hp110⟩
                         cases q14 : goesB p cd ch (Span.hi (List.getD p.swell cd.toNat default)) with
                         | true =>
                           exfalso
                           (have g6 := inB_iff.1 ‹inB swell _ _ = true›; exact no_tf (goes_mono (p := p) (d := cd) (h := ch) g6.2 (by assumption)) (by assumption))
                         | false =>
                           have hp112 : AllP (wOpen_p112 B p cd ch swell fd fh) := by
                            try have g2 := inB_iff.1 ‹inB cd 0 _ = true›
                            try have g3 := inB_iff.1 ‹inB ch 0 _ = true›
                            try have g4 := inB_iff.1 ‹inB fd 0 _ = true›
                            try have g5 := inB_iff.1 ‹inB fh 0 _ = true›
                            try have f1 := nx_facts (p := p) (fd := fd) (fh := fh) (by omega) (by omega) ‹nF p fd fh = true›
                            exact ⟨⟨trivial, (by have t_ := rHasH (p) (cd) (ch) (by first | with_reducible assumption | omega | simp_all); rw [q14] at t_; exact t_)⟩, hp111⟩
                           cases q15 : goesB p cd ch (Span.lo (List.getD p.swell cd.toNat default)) with
                           | true =>
                             have hp113 : AllP (wOpen_p113 B p cd ch swell fd fh) := by
                              try have g2 := inB_iff.1 ‹inB cd 0 _ = true›
                              try have g3 := inB_iff.1 ‹inB ch 0 _ = true›
                              try have g4 := inB_iff.1 ‹inB fd 0 _ = true›
                              try have g5 := inB_iff.1 ‹inB fh 0 _ = true›
                              try have f1 := nx_facts (p := p) (fd := fd) (fh := fh) (by omega) (by omega) ‹nF p fd fh = true›
                              exact ⟨⟨trivial, (by have t_ := rHasL (p) (cd) (ch) (by first | with_reducible assumption | omega | simp_all); rw [q15] at t_; exact t_)⟩, hp112⟩
                             by_cases q16 : (fd : Int) < (cd)
                             ·
                              exact (GoE.endsT okF hJ mixed_ok GoE.start (wOpen_s50 B p cd ch swell fd fh)
                               ⟨⟨trivial, known⟩, ⟨(ltq_t q16), hp113⟩⟩).cast rfl
                             ·
                              have hp114 : AllP (wOpen_p114 B p cd ch swell fd fh) := by
                               exact ⟨(ltq_f (Int.not_lt.1 q16)), hp113⟩
                              by_cases q17 : (cd : Int) = (fd)
                              ·
                               have hp115 : AllP (wOpen_p115 B p cd ch swell fd fh) := by
                                exact ⟨(eqq_t q17), hp114⟩
                               by_cases q18 : (fh : Int) ≤ (ch)
                               ·
                                exact (GoE.endsT okF hJ mixed_ok GoE.start (wOpen_s51 B p cd ch swell fd fh)
                                 ⟨⟨trivial, known⟩, ⟨(nltq_t q18), hp115⟩⟩).cast rfl
                               ·
                                exact (GoE.endsT okF hJ mixed_ok GoE.start (wOpen_s52 B p cd ch swell fd fh)
                                 ⟨⟨trivial, known⟩, ⟨(nltq_f (Int.not_le.1 q18)), hp115⟩⟩).cast rfl
                              ·
                               exact (GoE.endsT okF hJ mixed_ok GoE.start (wOpen_s53 B p cd ch swell fd fh)
                                ⟨⟨trivial, known⟩, ⟨(eqq_f q17), hp114⟩⟩).cast rfl
                           | false =>
                             have hp116 : AllP (wOpen_p116 B p cd ch swell fd fh) := by
                              try have g2 := inB_iff.1 ‹inB cd 0 _ = true›
                              try have g3 := inB_iff.1 ‹inB ch 0 _ = true›
                              try have g4 := inB_iff.1 ‹inB fd 0 _ = true›
                              try have g5 := inB_iff.1 ‹inB fh 0 _ = true›
                              try have f1 := nx_facts (p := p) (fd := fd) (fh := fh) (by omega) (by omega) ‹nF p fd fh = true›
                              exact ⟨⟨trivial, (by have t_ := rHasL (p) (cd) (ch) (by first | with_reducible assumption | omega | simp_all); rw [q15] at t_; exact t_)⟩, hp112⟩
                             by_cases q16 : (fd : Int) < (cd)
                             ·
                              exact (GoE.endsT okF hJ mixed_ok GoE.start (wOpen_s54 B p cd ch swell fd fh)
                               ⟨⟨trivial, known⟩, ⟨(ltq_t q16), hp116⟩⟩).cast rfl
                             ·
                              have hp117 : AllP (wOpen_p117 B p cd ch swell fd fh) := by
                               exact ⟨(ltq_f (Int.not_lt.1 q16)), hp116⟩
                              by_cases q17 : (cd : Int) = (fd)
                              ·
                               have hp118 : AllP (wOpen_p118 B p cd ch swell fd fh) := by
                                exact ⟨(eqq_t q17), hp117⟩
                               by_cases q18 : (fh : Int) ≤ (ch)
                               ·
                                exact (GoE.endsT okF hJ mixed_ok GoE.start (wOpen_s55 B p cd ch swell fd fh)
                                 ⟨⟨trivial, known⟩, ⟨(nltq_t q18), hp118⟩⟩).cast rfl
                               ·
                                exact (GoE.endsT okF hJ mixed_ok GoE.start (wOpen_s56 B p cd ch swell fd fh)
                                 ⟨⟨trivial, known⟩, ⟨(nltq_f (Int.not_le.1 q18)), hp118⟩⟩).cast rfl
                              ·
                               exact (GoE.endsT okF hJ mixed_ok GoE.start (wOpen_s57 B p cd ch swell fd fh)
                                ⟨⟨trivial, known⟩, ⟨(eqq_f q17), hp117⟩⟩).cast rfl
               | false =>
                 have hp119 : AllP (wOpen_p119 B p cd ch swell fd fh) := by
                  try have g2 := inB_iff.1 ‹inB cd 0 _ = true›
                  try have g3 := inB_iff.1 ‹inB ch 0 _ = true›
                  try have g4 := inB_iff.1 ‹inB fd 0 _ = true›
                  try have g5 := inB_iff.1 ‹inB fh 0 _ = true›
                  try have f1 := nx_facts (p := p) (fd := fd) (fh := fh) (by omega) (by omega) ‹nF p fd fh = true›
                  exact ⟨⟨by omega, by omega, (rowL_extract (z := 2) (fun _ => rfl) (by omega))⟩, ⟨⟨trivial, (by have t_ := pGoes (p) (cd) (ch) (swell); rw [q2, q3, q4, q7] at t_; exact t_)⟩, hp3⟩⟩
                 by_cases q8 : (swell : Int) < (Span.lo (List.getD p.swell cd.toNat default))
                 ·
                  exact (GoE.endsT okF hJ mixed_ok GoE.start (wOpen_s58 B p cd ch swell fd fh)
                   ⟨⟨trivial, known⟩, ⟨(ltq_t q8), hp119⟩⟩).cast rfl
                 ·
                  by_cases q9 : (Span.hi (List.getD p.swell cd.toNat default) : Int) < (swell)
                  ·
                   try have g2 := inB_iff.1 ‹inB cd 0 _ = true›
                   try have g3 := inB_iff.1 ‹inB ch 0 _ = true›
                   try have g4 := inB_iff.1 ‹inB fd 0 _ = true›
                   try have g5 := inB_iff.1 ‹inB fh 0 _ = true›
                   try have f1 := nx_facts (p := p) (fd := fd) (fh := fh) (by omega) (by omega) ‹nF p fd fh = true›
                   exact (GoE.endsT okF hJ mixed_ok GoE.start (wOpen_s59 B p cd ch swell fd fh)
                    ⟨⟨trivial, known⟩, ⟨(ltq_t q9), ⟨⟨by omega, by omega, (rowL_extract (z := 2) (fun _ => rfl) (by omega))⟩, ⟨(ltq_f (Int.not_lt.1 q8)), hp119⟩⟩⟩⟩).cast rfl
                  ·
                   exfalso
                   (have g7 := notIn ‹inB swell _ _ = false›; omega)
             | false =>
               try have g2 := inB_iff.1 ‹inB cd 0 _ = true›
               try have g3 := inB_iff.1 ‹inB ch 0 _ = true›
               try have g4 := inB_iff.1 ‹inB fd 0 _ = true›
               try have g5 := inB_iff.1 ‹inB fh 0 _ = true›
               try have f1 := nx_facts (p := p) (fd := fd) (fh := fh) (by omega) (by omega) ‹nF p fd fh = true›
               exact (GoE.endsT okF hJ mixed_ok GoE.start (wOpen_s60 B p cd ch swell fd fh)
                ⟨⟨trivial, known⟩, ⟨⟨trivial, (by have t_ := rCall (p) (fd) (fh); rw [q5, q6] at t_; exact t_)⟩, hp2⟩⟩).cast rfl
           | false =>
             try have g2 := inB_iff.1 ‹inB cd 0 _ = true›
             try have g3 := inB_iff.1 ‹inB ch 0 _ = true›
             try have g4 := inB_iff.1 ‹inB fd 0 _ = true›
             try have g5 := inB_iff.1 ‹inB fh 0 _ = true›
             try have f1 := nx_facts (p := p) (fd := fd) (fh := fh) (by omega) (by omega) ‹nF p fd fh = true›
             exact (GoE.endsT okF hJ mixed_ok GoE.start (wOpen_s61 B p cd ch swell fd fh)
              ⟨⟨trivial, known⟩, ⟨⟨trivial, (by have t_ := rCall (p) (fd) (fh); rw [q5] at t_; exact t_)⟩, hp2⟩⟩).cast rfl
         | false =>
           try have g2 := inB_iff.1 ‹inB cd 0 _ = true›
           try have g3 := inB_iff.1 ‹inB ch 0 _ = true›
           try have g4 := inB_iff.1 ‹inB fd 0 _ = true›
           try have g5 := inB_iff.1 ‹inB fh 0 _ = true›
           try have f1 := nx_facts (p := p) (fd := fd) (fh := fh) (by omega) (by omega) ‹nF p fd fh = true›
           exact (GoE.endsT okF hJ mixed_ok GoE.start (wOpen_s62 B p cd ch swell fd fh)
            ⟨⟨trivial, known⟩, ⟨⟨trivial, (by have t_ := rCall (p) (cd) (ch); rw [q3, q4] at t_; exact t_)⟩, hp1⟩⟩).cast rfl
       | false =>
         try have g2 := inB_iff.1 ‹inB cd 0 _ = true›
         try have g3 := inB_iff.1 ‹inB ch 0 _ = true›
         try have g4 := inB_iff.1 ‹inB fd 0 _ = true›
         try have g5 := inB_iff.1 ‹inB fh 0 _ = true›
         try have f1 := nx_facts (p := p) (fd := fd) (fh := fh) (by omega) (by omega) ‹nF p fd fh = true›
         exact (GoE.endsT okF hJ mixed_ok GoE.start (wOpen_s63 B p cd ch swell fd fh)
          ⟨⟨trivial, known⟩, ⟨⟨trivial, (by have t_ := rCall (p) (cd) (ch); rw [q3] at t_; exact t_)⟩, hp1⟩⟩).cast rfl
     | false =>
       try have g2 := inB_iff.1 ‹inB cd 0 _ = true›
       try have g3 := inB_iff.1 ‹inB ch 0 _ = true›
       try have g4 := inB_iff.1 ‹inB fd 0 _ = true›
       try have g5 := inB_iff.1 ‹inB fh 0 _ = true›
       try have f1 := nx_facts (p := p) (fd := fd) (fh := fh) (by omega) (by omega) ‹nF p fd fh = true›
       exact (GoE.endsT okF hJ mixed_ok GoE.start (wOpen_s64 B p cd ch swell fd fh)
        ⟨⟨trivial, known⟩, ⟨⟨trivial, (by have t_ := rPass (p); rw [q2] at t_; exact t_)⟩, hp0⟩⟩).cast rfl
   | false =>
     try have g2 := inB_iff.1 ‹inB cd 0 _ = true›
     try have g3 := inB_iff.1 ‹inB ch 0 _ = true›
     try have g4 := inB_iff.1 ‹inB fd 0 _ = true›
     try have g5 := inB_iff.1 ‹inB fh 0 _ = true›
     try have f1 := nx_facts (p := p) (fd := fd) (fh := fh) (by omega) (by omega) ‹nF p fd fh = true›
     exact (GoE.endsT okF hJ mixed_ok GoE.start (wOpen_s65 B p cd ch swell fd fh)
      ⟨⟨trivial, known⟩, ⟨⟨trivial, (by have t_ := lpass (p); rw [q0, q1] at t_; exact t_)⟩, trivial⟩⟩).cast rfl
 | false =>
   try have g2 := inB_iff.1 ‹inB cd 0 _ = true›
   try have g3 := inB_iff.1 ‹inB ch 0 _ = true›
   try have g4 := inB_iff.1 ‹inB fd 0 _ = true›
   try have g5 := inB_iff.1 ‹inB fh 0 _ = true›
   try have f1 := nx_facts (p := p) (fd := fd) (fh := fh) (by omega) (by omega) ‹nF p fd fh = true›
   exact (GoE.endsT okF hJ mixed_ok GoE.start (wOpen_s66 B p cd ch swell fd fh)
    ⟨⟨trivial, known⟩, ⟨⟨trivial, (by have t_ := lpass (p); rw [q0] at t_; exact t_)⟩, trivial⟩⟩).cast rfl
theorem wOpen (p : ShPass) (cd ch swell fd fh : Int)  : PureC Tryz.prog J0 4 #[.agg (encPass p).toArray, callV cd ch, .int .i64 swell, callV fd fh] (.bool true) :=
 pureC_of (ts := [.agg (encPass p).toArray, callV cd ch, .int .i64 swell, callV fd fh]) J0_st (c0 := entryC Tryz.prog 4 248 (([.agg (encPass p).toArray, callV cd ch, .int .i64 swell, callV fd fh]).map (pushT 0 4))) (by kernel_rfl) (by kernel_rfl) fun B hJ => wOpen_e p cd ch swell fd fh  hJ
end Go.Proofs.YtiabgkiccaodmaaGreat

