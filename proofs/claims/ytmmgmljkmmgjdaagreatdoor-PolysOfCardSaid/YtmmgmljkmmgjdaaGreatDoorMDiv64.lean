import Derived.Test.YtmmgmljkmmgjdaaGreatDoorMRbits
import Derived.Test.YtmmgmljkmmgjdaaGreatDoorMTree
namespace Go.Proofs.YtmmgmljkmmgjdaaGreatDoor
set_option maxRecDepth 100000
set_option maxHeartbeats 8000000
open Go.RowKit
set_option linter.unusedSimpArgs false
set_option linter.unusedVariables false
attribute [local go_sem ↓] Go.wp_at_zero Go.wp_at_succ

theorem dv_walk (h l y s Y y1 y0 hs lh U D d1 d0 qa ma ra t1 t2 t3 Q1 R1 qb mb rb Q0 R0 x1 x2 x3 x4 x5 X:Nat)
  (y0n:(y:Int)≠0)
  (hy1:¬ (y:Int)≤(h:Int))
  (hh0:(h:Int)≠0)
  (g1:IntKind.u64.wrap ((y:Int)*2^s)=(Y:Nat))
  (g2:(Y:Int)/4294967296=(y1:Nat))
  (g3:bits BinOp.and IntKind.u64 (Y:Int) 4294967295=(y0:Nat))
  (g4:IntKind.u64.wrap ((h:Int)*2^s)=(hs:Nat))
  (g5:(l:Int)/2^(64-s)=(lh:Nat))
  (g6:bits BinOp.or IntKind.u64 (hs:Int) (lh:Int)=(U:Nat))
  (g7:IntKind.u64.wrap ((l:Int)*2^s)=(D:Nat))
  (g8:(D:Int)/4294967296=(d1:Nat))
  (g9:bits BinOp.and IntKind.u64 (D:Int) 4294967295=(d0:Nat))
  (gq:Int.tdiv (U:Int) (y1:Int)=(qa:Nat))
  (gqe:(U:Int)/(y1:Int)=(qa:Nat))
  (gqw:IntKind.u64.wrap (qa:Int)=(qa:Nat))
  (gqy:IntKind.u64.wrap ((qa:Int)*(y1:Int))=(ma:Nat))
  (gra:IntKind.u64.wrap ((U:Int)-(ma:Int))=(ra:Nat))
  (y1z:(y1:Int)≠0)
  (gt1:IntKind.u64.wrap ((U:Int)*4294967296)=(t1:Nat))
  (gt2:IntKind.u64.wrap ((t1:Int)+(d1:Int))=(t2:Nat))
  (gt3:IntKind.u64.wrap ((Q1:Int)*(Y:Int))=(t3:Nat))
  (gt4:IntKind.u64.wrap ((t2:Int)-(t3:Int))=(R1:Nat))
  (gqb:Int.tdiv (R1:Int) (y1:Int)=(qb:Nat))
  (gqbe:(R1:Int)/(y1:Int)=(qb:Nat))
  (gqbw:IntKind.u64.wrap (qb:Int)=(qb:Nat))
  (gqby:IntKind.u64.wrap ((qb:Int)*(y1:Int))=(mb:Nat))
  (grb:IntKind.u64.wrap ((R1:Int)-(mb:Int))=(rb:Nat))
  (gu1:IntKind.u64.wrap ((Q1:Int)*4294967296)=(x1:Nat))
  (gu2:IntKind.u64.wrap ((x1:Int)+(Q0:Int))=(x2:Nat))
  (gu3:IntKind.u64.wrap ((R1:Int)*4294967296)=(x3:Nat))
  (gu4:IntKind.u64.wrap ((x3:Int)+(d0:Int))=(x4:Nat))
  (gu5:IntKind.u64.wrap ((Q0:Int)*(Y:Int))=(x5:Nat))
  (gu6:IntKind.u64.wrap ((x4:Int)-(x5:Int))=(R0:Nat))
  (gu7:(R0:Int)/2^s=(X:Nat))
  (hs63:s≤63)
  (hd1:d1<4294967296)
  (hd2:d0<4294967296)
  (hy0:y0<4294967296)
  (hy1b:2147483648≤y1)
  (hy1c:y1<4294967296)
  (hY:Y=y1*4294967296+y0)
  (hu1:U<y1*4294967296+y0)
  (hu2:R1<y1*4294967296+y0)
  (hQ1:Q1=(U*4294967296+d1)/Y)
  (hQ0:Q0=(R1*4294967296+d0)/Y)
  (hqa:U=qa*y1+ra)
  (hq1a:Q1≤qa)
  (hq1b:qa≤4294967297)
  (hra:ra<y1)
  (hqb:R1=qb*y1+rb)
  (hq2a:Q0≤qb)
  (hq2b:qb≤4294967297)
  (hrb:rb<y1)
  (LZ:∀ w,Calls Tryz.prog 217 #[.int .u64 (y:Nat)] w fun e w'=>e=.returned (.int .i64 (s:Nat))∧w'=w)
  (w:World):Calls Tryz.prog 204 #[.int .u64 (h:Nat),.int .u64 (l:Nat),.int .u64 (y:Nat)] w fun e w'=>e=.returned (.tuple #[.int .u64 (x2:Nat),.int .u64 (X:Nat)])∧w'=w:=by
 have HL:=Jja LZ
 have HQ1:=Jja hQ1;have HQ2:=Jja hQ0
 clear LZ hQ1 hQ0
 have H_hd1:=Jja hd1
 have H_hd2:=Jja hd2
 have H_hy0:=Jja hy0
 have H_hy1b:=Jja hy1b
 have H_hy1c:=Jja hy1c
 have H_hY:=Jja hY
 have H_hu1:=Jja hu1
 have H_hu2:=Jja hu2
 have H_hqa:=Jja hqa
 have H_hq1a:=Jja hq1a
 have H_hq1b:=Jja hq1b
 have H_hra:=Jja hra
 have H_hqb:=Jja hqb
 have H_hq2a:=Jja hq2a
 have H_hq2b:=Jja hq2b
 have H_hrb:=Jja hrb
 clear hd1 hd2 hy0 hy1b hy1c hY hu1 hu2 hqa hq1a hq1b hra hqb hq2a hq2b hrb
 go_enter Tryz.func204,Tryz.ntmps204
 go_wp2_with fail
 refine (HL.out _).mono ?_
 rintro e v ⟨rfl,rfl⟩
 go_wp2_with fail
 go_loopw [15,16] (fun a b wr=>∃ q r:Nat,a=.int .u64 (q:Nat)∧b=.int .u64 (r:Nat)∧v=wr∧Hid (U=q*y1+r∧Q1≤q∧q≤4294967297∧r<4294967296)) (fun a _ _=>(intOf a).toNat)
 case atStart=>exact ⟨qa,ra,rfl,rfl,rfl,⟨H_hqa.out,H_hq1a.out,H_hq1b.out,by have j1:=H_hra.out;have j2:=H_hy1c.out;omega⟩⟩
 case round=>
  obtain ⟨q,r,rfl,rfl,rfl,hM⟩:=hrel
  have hb1:=hM.out.2.2.1;have hb2:=hM.out.2.2.2;have hb3:=hM.out.2.1
  by_cases c1:4294967296≤q
  ·have c1i:(4294967296:Int)≤(q:Int):=by omega
   obtain ⟨p,hp⟩:∃ p,q=p+1:=by
    rcases Nat.eq_zero_or_pos q with e | e
    ·exfalso;omega
    ·exact ⟨q-1,by omega⟩
   obtain ⟨r2,hr2⟩:∃ r2,r2=r+y1:=⟨_,rfl⟩
   have gp1:IntKind.u64.wrap ((q:Int)-1)=(p:Nat):=by rw [IntKind.wrap_u64];have j1:=hb1;omega
   have gr1:IntKind.u64.wrap ((r:Int)+(y1:Int))=(r2:Nat):=by rw [IntKind.wrap_u64];have j1:=H_hy1c.out;omega
   have hdn:=Jak U d1 q r y1 y0 H_hd1.out H_hu1.out hM.out.1 (Or.inl c1)
   rw [← H_hY.out,← HQ1.out] at hdn
   have hnew:U=p*y1+r2:=by have:=hM.out.1;rw [hp,Nat.add_mul] at this;omega
   have HNEW:=Jja hnew
   have hQp:Q1≤p:=by omega
   have hp2:p≤4294967296:=by have:=hM.out.2.2.1;omega
   have HPP:=Jja hp;have HR2:=Jja hr2
   clear hnew hdn hp hr2
   by_cases c2:4294967296≤r2
   ·have c2i:(4294967296:Int)≤(r2:Int):=by omega
    have hq:p=Q1:=by
     have:=Jaj U d1 p r2 y1 y0 (by have j1:=H_hy1b.out;omega) H_hy0.out HNEW.out hp2 c2 (by rw [← H_hY.out,← HQ1.out];exact hQp)
     rw [← H_hY.out,← HQ1.out] at this;exact this
    clear hM HNEW hQp hp2 c2
    subst hq
    go_wp2_with fail
    go_loopw [18,16] (fun a b wr=>∃ q r:Nat,a=.int .u64 (q:Nat)∧b=.int .u64 (r:Nat)∧v=wr∧Hid (R1=q*y1+r∧Q0≤q∧q≤4294967297∧r<4294967296)) (fun a _ _=>(intOf a).toNat)
    case atStart=>exact ⟨qb,rb,rfl,rfl,rfl,⟨H_hqb.out,H_hq2a.out,H_hq2b.out,by have j1:=H_hrb.out;have j2:=H_hy1c.out;omega⟩⟩
    case round=>
     obtain ⟨q,r,rfl,rfl,rfl,hM⟩:=hrel
     have hb1:=hM.out.2.2.1;have hb2:=hM.out.2.2.2;have hb3:=hM.out.2.1
     by_cases c1:4294967296≤q
     ·have c1i:(4294967296:Int)≤(q:Int):=by omega
      obtain ⟨p,hp⟩:∃ p,q=p+1:=by
       rcases Nat.eq_zero_or_pos q with e | e
       ·exfalso;omega
       ·exact ⟨q-1,by omega⟩
      obtain ⟨r2,hr2⟩:∃ r2,r2=r+y1:=⟨_,rfl⟩
      have gp1:IntKind.u64.wrap ((q:Int)-1)=(p:Nat):=by rw [IntKind.wrap_u64];have j1:=hb1;omega
      have gr1:IntKind.u64.wrap ((r:Int)+(y1:Int))=(r2:Nat):=by rw [IntKind.wrap_u64];have j1:=H_hy1c.out;omega
      have hdn:=Jak R1 d0 q r y1 y0 H_hd2.out H_hu2.out hM.out.1 (Or.inl c1)
      rw [← H_hY.out,← HQ2.out] at hdn
      have hnew:R1=p*y1+r2:=by have:=hM.out.1;rw [hp,Nat.add_mul] at this;omega
      have HNEW:=Jja hnew
      have hQp:Q0≤p:=by omega
      have hp2:p≤4294967296:=by have:=hM.out.2.2.1;omega
      have HPP:=Jja hp;have HR2:=Jja hr2
      clear hnew hdn hp hr2
      by_cases c2:4294967296≤r2
      ·have c2i:(4294967296:Int)≤(r2:Int):=by omega
       have hq:p=Q0:=by
        have:=Jaj R1 d0 p r2 y1 y0 (by have j1:=H_hy1b.out;omega) H_hy0.out HNEW.out hp2 c2 (by rw [← H_hY.out,← HQ2.out];exact hQp)
        rw [← H_hY.out,← HQ2.out] at this;exact this
       clear hM HNEW hQp hp2 c2
       subst hq
       go_wp2_with fail
       first | go_ret2 | go_ret
       exact ⟨by first | rfl | simp,rfl⟩
      ·have c2i:¬ (4294967296:Int)≤(r2:Int):=by omega
       have c2j:(r2:Int)<4294967296:=by omega
       go_wp2_with fail
       go_roundw
       case rel=>
        first
         | exact ⟨p,r2,rfl,rfl,trivial,HNEW.out,hQp,by omega,by omega⟩
         | exact ⟨p,r2,rfl,rfl,rfl,HNEW.out,hQp,by omega,by omega⟩
         | ((repeat apply Exists.intro);exact ⟨⟨p,r2,rfl,rfl,rfl,HNEW.out,hQp,by omega,by omega⟩,rfl⟩)
       case measure=>(have hp:=HPP.out;simp [intOf] <;> omega)
     ·have c1i:¬ (4294967296:Int)≤(q:Int):=by omega
      have c1j:(q:Int)<4294967296:=by omega
      obtain ⟨mm,hmm⟩:∃ mm,mm=q*y0:=⟨_,rfl⟩
      have hmb:mm≤4294967295*4294967295:=by rw [hmm];exact Nat.mul_le_mul (by omega) (by have j1:=H_hy0.out;omega)
      obtain ⟨k2,hk2⟩:∃ k2,k2=4294967296*r+d0:=⟨_,rfl⟩
      have gm:IntKind.u64.wrap ((q:Int)*(y0:Int))=(mm:Nat):=by rw [← Int.natCast_mul,← hmm,IntKind.wrap_u64];omega
      clear hmb
      have jd:=H_hd2.out
      have gn:IntKind.u64.wrap (4294967296*(r:Int))=((4294967296*r:Nat):Int):=by rw [IntKind.wrap_u64];omega
      have gn2:IntKind.u64.wrap (4294967296*(r:Int)+(d0:Int))=(k2:Nat):=by rw [IntKind.wrap_u64];omega
      have gn3:IntKind.u64.wrap (((4294967296*r:Nat):Int)+(d0:Int))=(k2:Nat):=by rw [IntKind.wrap_u64];omega
      have gn4:IntKind.u64.wrap (4294967296*(r:Int))=4294967296*(r:Int):=by rw [IntKind.wrap_u64];omega
      have HMM:=Jja hmm;have HK2:=Jja hk2
      clear gn gn3 jd hmm hk2
      by_cases c3:k2<mm
      ·have c3i:(k2:Int)<(mm:Int):=by omega
       obtain ⟨p,hp⟩:∃ p,q=p+1:=by
        rcases Nat.eq_zero_or_pos q with e | e
        ·exfalso;have:=HMM.out;rw [e,Nat.zero_mul] at this;omega
        ·exact ⟨q-1,by omega⟩
       obtain ⟨r2,hr2⟩:∃ r2,r2=r+y1:=⟨_,rfl⟩
       have gp1:IntKind.u64.wrap ((q:Int)-1)=(p:Nat):=by rw [IntKind.wrap_u64];have j1:=hb1;omega
       have gr1:IntKind.u64.wrap ((r:Int)+(y1:Int))=(r2:Nat):=by rw [IntKind.wrap_u64];have j1:=H_hy1c.out;omega
       have hdn:=Jak R1 d0 q r y1 y0 H_hd2.out H_hu2.out hM.out.1 (Or.inr (by rw [← HK2.out,← HMM.out];exact c3))
       rw [← H_hY.out,← HQ2.out] at hdn
       have hnew:R1=p*y1+r2:=by have:=hM.out.1;rw [hp,Nat.add_mul] at this;omega
       have HNEW:=Jja hnew
       have hQp:Q0≤p:=by omega
       have hp2:p≤4294967296:=by have:=hM.out.2.2.1;omega
       have HPP:=Jja hp;have HR2:=Jja hr2
       clear hnew hdn hp hr2
       by_cases c2:4294967296≤r2
       ·have c2i:(4294967296:Int)≤(r2:Int):=by omega
        have hq:p=Q0:=by
         have:=Jaj R1 d0 p r2 y1 y0 (by have j1:=H_hy1b.out;omega) H_hy0.out HNEW.out hp2 c2 (by rw [← H_hY.out,← HQ2.out];exact hQp)
         rw [← H_hY.out,← HQ2.out] at this;exact this
        clear hM HNEW hQp hp2 c2
        subst hq
        go_wp2_with fail
        first | go_ret2 | go_ret
        exact ⟨by first | rfl | simp,rfl⟩
       ·have c2i:¬ (4294967296:Int)≤(r2:Int):=by omega
        have c2j:(r2:Int)<4294967296:=by omega
        go_wp2_with fail
        go_roundw
        case rel=>
         first
          | exact ⟨p,r2,rfl,rfl,trivial,HNEW.out,hQp,by omega,by omega⟩
          | exact ⟨p,r2,rfl,rfl,rfl,HNEW.out,hQp,by omega,by omega⟩
          | ((repeat apply Exists.intro);exact ⟨⟨p,r2,rfl,rfl,rfl,HNEW.out,hQp,by omega,by omega⟩,rfl⟩)
        case measure=>(have hp:=HPP.out;simp [intOf] <;> omega)
      ·have c3i:¬ (k2:Int)<(mm:Int):=by omega
       have c3j:(mm:Int)≤(k2:Int):=by omega
       have hq:q=Q0:=by
        have:=Jgz R1 d0 q r y1 y0 (by have j1:=H_hy1b.out;omega) hM.out.1 (by rw [← HK2.out,← HMM.out];omega) (by rw [← H_hY.out,← HQ2.out];exact hb3)
        rw [← H_hY.out,← HQ2.out] at this;exact this
       clear hM
       subst hq
       go_wp2_with fail
       first | go_ret2 | go_ret
       exact ⟨by first | rfl | simp,rfl⟩
   ·have c2i:¬ (4294967296:Int)≤(r2:Int):=by omega
    have c2j:(r2:Int)<4294967296:=by omega
    go_wp2_with fail
    go_roundw
    case rel=>
     first
      | exact ⟨p,r2,rfl,rfl,trivial,HNEW.out,hQp,by omega,by omega⟩
      | exact ⟨p,r2,rfl,rfl,rfl,HNEW.out,hQp,by omega,by omega⟩
      | ((repeat apply Exists.intro);exact ⟨⟨p,r2,rfl,rfl,rfl,HNEW.out,hQp,by omega,by omega⟩,rfl⟩)
    case measure=>(have hp:=HPP.out;simp [intOf] <;> omega)
  ·have c1i:¬ (4294967296:Int)≤(q:Int):=by omega
   have c1j:(q:Int)<4294967296:=by omega
   obtain ⟨mm,hmm⟩:∃ mm,mm=q*y0:=⟨_,rfl⟩
   have hmb:mm≤4294967295*4294967295:=by rw [hmm];exact Nat.mul_le_mul (by omega) (by have j1:=H_hy0.out;omega)
   obtain ⟨k2,hk2⟩:∃ k2,k2=4294967296*r+d1:=⟨_,rfl⟩
   have gm:IntKind.u64.wrap ((q:Int)*(y0:Int))=(mm:Nat):=by rw [← Int.natCast_mul,← hmm,IntKind.wrap_u64];omega
   clear hmb
   have jd:=H_hd1.out
   have gn:IntKind.u64.wrap (4294967296*(r:Int))=((4294967296*r:Nat):Int):=by rw [IntKind.wrap_u64];omega
   have gn2:IntKind.u64.wrap (4294967296*(r:Int)+(d1:Int))=(k2:Nat):=by rw [IntKind.wrap_u64];omega
   have gn3:IntKind.u64.wrap (((4294967296*r:Nat):Int)+(d1:Int))=(k2:Nat):=by rw [IntKind.wrap_u64];omega
   have gn4:IntKind.u64.wrap (4294967296*(r:Int))=4294967296*(r:Int):=by rw [IntKind.wrap_u64];omega
   have HMM:=Jja hmm;have HK2:=Jja hk2
   clear gn gn3 jd hmm hk2
   by_cases c3:k2<mm
   ·have c3i:(k2:Int)<(mm:Int):=by omega
    obtain ⟨p,hp⟩:∃ p,q=p+1:=by
     rcases Nat.eq_zero_or_pos q with e | e
     ·exfalso;have:=HMM.out;rw [e,Nat.zero_mul] at this;omega
     ·exact ⟨q-1,by omega⟩
    obtain ⟨r2,hr2⟩:∃ r2,r2=r+y1:=⟨_,rfl⟩
    have gp1:IntKind.u64.wrap ((q:Int)-1)=(p:Nat):=by rw [IntKind.wrap_u64];have j1:=hb1;omega
    have gr1:IntKind.u64.wrap ((r:Int)+(y1:Int))=(r2:Nat):=by rw [IntKind.wrap_u64];have j1:=H_hy1c.out;omega
    have hdn:=Jak U d1 q r y1 y0 H_hd1.out H_hu1.out hM.out.1 (Or.inr (by rw [← HK2.out,← HMM.out];exact c3))
    rw [← H_hY.out,← HQ1.out] at hdn
    have hnew:U=p*y1+r2:=by have:=hM.out.1;rw [hp,Nat.add_mul] at this;omega
    have HNEW:=Jja hnew
    have hQp:Q1≤p:=by omega
    have hp2:p≤4294967296:=by have:=hM.out.2.2.1;omega
    have HPP:=Jja hp;have HR2:=Jja hr2
    clear hnew hdn hp hr2
    by_cases c2:4294967296≤r2
    ·have c2i:(4294967296:Int)≤(r2:Int):=by omega
     have hq:p=Q1:=by
      have:=Jaj U d1 p r2 y1 y0 (by have j1:=H_hy1b.out;omega) H_hy0.out HNEW.out hp2 c2 (by rw [← H_hY.out,← HQ1.out];exact hQp)
      rw [← H_hY.out,← HQ1.out] at this;exact this
     clear hM HNEW hQp hp2 c2
     subst hq
     go_wp2_with fail
     go_loopw [18,16] (fun a b wr=>∃ q r:Nat,a=.int .u64 (q:Nat)∧b=.int .u64 (r:Nat)∧v=wr∧Hid (R1=q*y1+r∧Q0≤q∧q≤4294967297∧r<4294967296)) (fun a _ _=>(intOf a).toNat)
     case atStart=>exact ⟨qb,rb,rfl,rfl,rfl,⟨H_hqb.out,H_hq2a.out,H_hq2b.out,by have j1:=H_hrb.out;have j2:=H_hy1c.out;omega⟩⟩
     case round=>
      obtain ⟨q,r,rfl,rfl,rfl,hM⟩:=hrel
      have hb1:=hM.out.2.2.1;have hb2:=hM.out.2.2.2;have hb3:=hM.out.2.1
      by_cases c1:4294967296≤q
      ·have c1i:(4294967296:Int)≤(q:Int):=by omega
       obtain ⟨p,hp⟩:∃ p,q=p+1:=by
        rcases Nat.eq_zero_or_pos q with e | e
        ·exfalso;omega
        ·exact ⟨q-1,by omega⟩
       obtain ⟨r2,hr2⟩:∃ r2,r2=r+y1:=⟨_,rfl⟩
       have gp1:IntKind.u64.wrap ((q:Int)-1)=(p:Nat):=by rw [IntKind.wrap_u64];have j1:=hb1;omega
       have gr1:IntKind.u64.wrap ((r:Int)+(y1:Int))=(r2:Nat):=by rw [IntKind.wrap_u64];have j1:=H_hy1c.out;omega
       have hdn:=Jak R1 d0 q r y1 y0 H_hd2.out H_hu2.out hM.out.1 (Or.inl c1)
       rw [← H_hY.out,← HQ2.out] at hdn
       have hnew:R1=p*y1+r2:=by have:=hM.out.1;rw [hp,Nat.add_mul] at this;omega
       have HNEW:=Jja hnew
       have hQp:Q0≤p:=by omega
       have hp2:p≤4294967296:=by have:=hM.out.2.2.1;omega
       have HPP:=Jja hp;have HR2:=Jja hr2
       clear hnew hdn hp hr2
       by_cases c2:4294967296≤r2
       ·have c2i:(4294967296:Int)≤(r2:Int):=by omega
        have hq:p=Q0:=by
         have:=Jaj R1 d0 p r2 y1 y0 (by have j1:=H_hy1b.out;omega) H_hy0.out HNEW.out hp2 c2 (by rw [← H_hY.out,← HQ2.out];exact hQp)
         rw [← H_hY.out,← HQ2.out] at this;exact this
        clear hM HNEW hQp hp2 c2
        subst hq
        go_wp2_with fail
        first | go_ret2 | go_ret
        exact ⟨by first | rfl | simp,rfl⟩
       ·have c2i:¬ (4294967296:Int)≤(r2:Int):=by omega
        have c2j:(r2:Int)<4294967296:=by omega
        go_wp2_with fail
        go_roundw
        case rel=>
         first
          | exact ⟨p,r2,rfl,rfl,trivial,HNEW.out,hQp,by omega,by omega⟩
          | exact ⟨p,r2,rfl,rfl,rfl,HNEW.out,hQp,by omega,by omega⟩
          | ((repeat apply Exists.intro);exact ⟨⟨p,r2,rfl,rfl,rfl,HNEW.out,hQp,by omega,by omega⟩,rfl⟩)
        case measure=>(have hp:=HPP.out;simp [intOf] <;> omega)
      ·have c1i:¬ (4294967296:Int)≤(q:Int):=by omega
       have c1j:(q:Int)<4294967296:=by omega
       obtain ⟨mm,hmm⟩:∃ mm,mm=q*y0:=⟨_,rfl⟩
       have hmb:mm≤4294967295*4294967295:=by rw [hmm];exact Nat.mul_le_mul (by omega) (by have j1:=H_hy0.out;omega)
       obtain ⟨k2,hk2⟩:∃ k2,k2=4294967296*r+d0:=⟨_,rfl⟩
       have gm:IntKind.u64.wrap ((q:Int)*(y0:Int))=(mm:Nat):=by rw [← Int.natCast_mul,← hmm,IntKind.wrap_u64];omega
       clear hmb
       have jd:=H_hd2.out
       have gn:IntKind.u64.wrap (4294967296*(r:Int))=((4294967296*r:Nat):Int):=by rw [IntKind.wrap_u64];omega
       have gn2:IntKind.u64.wrap (4294967296*(r:Int)+(d0:Int))=(k2:Nat):=by rw [IntKind.wrap_u64];omega
       have gn3:IntKind.u64.wrap (((4294967296*r:Nat):Int)+(d0:Int))=(k2:Nat):=by rw [IntKind.wrap_u64];omega
       have gn4:IntKind.u64.wrap (4294967296*(r:Int))=4294967296*(r:Int):=by rw [IntKind.wrap_u64];omega
       have HMM:=Jja hmm;have HK2:=Jja hk2
       clear gn gn3 jd hmm hk2
       by_cases c3:k2<mm
       ·have c3i:(k2:Int)<(mm:Int):=by omega
        obtain ⟨p,hp⟩:∃ p,q=p+1:=by
         rcases Nat.eq_zero_or_pos q with e | e
         ·exfalso;have:=HMM.out;rw [e,Nat.zero_mul] at this;omega
         ·exact ⟨q-1,by omega⟩
        obtain ⟨r2,hr2⟩:∃ r2,r2=r+y1:=⟨_,rfl⟩
        have gp1:IntKind.u64.wrap ((q:Int)-1)=(p:Nat):=by rw [IntKind.wrap_u64];have j1:=hb1;omega
        have gr1:IntKind.u64.wrap ((r:Int)+(y1:Int))=(r2:Nat):=by rw [IntKind.wrap_u64];have j1:=H_hy1c.out;omega
        have hdn:=Jak R1 d0 q r y1 y0 H_hd2.out H_hu2.out hM.out.1 (Or.inr (by rw [← HK2.out,← HMM.out];exact c3))
        rw [← H_hY.out,← HQ2.out] at hdn
        have hnew:R1=p*y1+r2:=by have:=hM.out.1;rw [hp,Nat.add_mul] at this;omega
        have HNEW:=Jja hnew
        have hQp:Q0≤p:=by omega
        have hp2:p≤4294967296:=by have:=hM.out.2.2.1;omega
        have HPP:=Jja hp;have HR2:=Jja hr2
        clear hnew hdn hp hr2
        by_cases c2:4294967296≤r2
        ·have c2i:(4294967296:Int)≤(r2:Int):=by omega
         have hq:p=Q0:=by
          have:=Jaj R1 d0 p r2 y1 y0 (by have j1:=H_hy1b.out;omega) H_hy0.out HNEW.out hp2 c2 (by rw [← H_hY.out,← HQ2.out];exact hQp)
          rw [← H_hY.out,← HQ2.out] at this;exact this
         clear hM HNEW hQp hp2 c2
         subst hq
         go_wp2_with fail
         first | go_ret2 | go_ret
         exact ⟨by first | rfl | simp,rfl⟩
        ·have c2i:¬ (4294967296:Int)≤(r2:Int):=by omega
         have c2j:(r2:Int)<4294967296:=by omega
         go_wp2_with fail
         go_roundw
         case rel=>
          first
           | exact ⟨p,r2,rfl,rfl,trivial,HNEW.out,hQp,by omega,by omega⟩
           | exact ⟨p,r2,rfl,rfl,rfl,HNEW.out,hQp,by omega,by omega⟩
           | ((repeat apply Exists.intro);exact ⟨⟨p,r2,rfl,rfl,rfl,HNEW.out,hQp,by omega,by omega⟩,rfl⟩)
         case measure=>(have hp:=HPP.out;simp [intOf] <;> omega)
       ·have c3i:¬ (k2:Int)<(mm:Int):=by omega
        have c3j:(mm:Int)≤(k2:Int):=by omega
        have hq:q=Q0:=by
         have:=Jgz R1 d0 q r y1 y0 (by have j1:=H_hy1b.out;omega) hM.out.1 (by rw [← HK2.out,← HMM.out];omega) (by rw [← H_hY.out,← HQ2.out];exact hb3)
         rw [← H_hY.out,← HQ2.out] at this;exact this
        clear hM
        subst hq
        go_wp2_with fail
        first | go_ret2 | go_ret
        exact ⟨by first | rfl | simp,rfl⟩
    ·have c2i:¬ (4294967296:Int)≤(r2:Int):=by omega
     have c2j:(r2:Int)<4294967296:=by omega
     go_wp2_with fail
     go_roundw
     case rel=>
      first
       | exact ⟨p,r2,rfl,rfl,trivial,HNEW.out,hQp,by omega,by omega⟩
       | exact ⟨p,r2,rfl,rfl,rfl,HNEW.out,hQp,by omega,by omega⟩
       | ((repeat apply Exists.intro);exact ⟨⟨p,r2,rfl,rfl,rfl,HNEW.out,hQp,by omega,by omega⟩,rfl⟩)
     case measure=>(have hp:=HPP.out;simp [intOf] <;> omega)
   ·have c3i:¬ (k2:Int)<(mm:Int):=by omega
    have c3j:(mm:Int)≤(k2:Int):=by omega
    have hq:q=Q1:=by
     have:=Jgz U d1 q r y1 y0 (by have j1:=H_hy1b.out;omega) hM.out.1 (by rw [← HK2.out,← HMM.out];omega) (by rw [← H_hY.out,← HQ1.out];exact hb3)
     rw [← H_hY.out,← HQ1.out] at this;exact this
    clear hM
    subst hq
    go_wp2_with fail
    go_loopw [18,16] (fun a b wr=>∃ q r:Nat,a=.int .u64 (q:Nat)∧b=.int .u64 (r:Nat)∧v=wr∧Hid (R1=q*y1+r∧Q0≤q∧q≤4294967297∧r<4294967296)) (fun a _ _=>(intOf a).toNat)
    case atStart=>exact ⟨qb,rb,rfl,rfl,rfl,⟨H_hqb.out,H_hq2a.out,H_hq2b.out,by have j1:=H_hrb.out;have j2:=H_hy1c.out;omega⟩⟩
    case round=>
     obtain ⟨q,r,rfl,rfl,rfl,hM⟩:=hrel
     have hb1:=hM.out.2.2.1;have hb2:=hM.out.2.2.2;have hb3:=hM.out.2.1
     by_cases c1:4294967296≤q
     ·have c1i:(4294967296:Int)≤(q:Int):=by omega
      obtain ⟨p,hp⟩:∃ p,q=p+1:=by
       rcases Nat.eq_zero_or_pos q with e | e
       ·exfalso;omega
       ·exact ⟨q-1,by omega⟩
      obtain ⟨r2,hr2⟩:∃ r2,r2=r+y1:=⟨_,rfl⟩
      have gp1:IntKind.u64.wrap ((q:Int)-1)=(p:Nat):=by rw [IntKind.wrap_u64];have j1:=hb1;omega
      have gr1:IntKind.u64.wrap ((r:Int)+(y1:Int))=(r2:Nat):=by rw [IntKind.wrap_u64];have j1:=H_hy1c.out;omega
      have hdn:=Jak R1 d0 q r y1 y0 H_hd2.out H_hu2.out hM.out.1 (Or.inl c1)
      rw [← H_hY.out,← HQ2.out] at hdn
      have hnew:R1=p*y1+r2:=by have:=hM.out.1;rw [hp,Nat.add_mul] at this;omega
      have HNEW:=Jja hnew
      have hQp:Q0≤p:=by omega
      have hp2:p≤4294967296:=by have:=hM.out.2.2.1;omega
      have HPP:=Jja hp;have HR2:=Jja hr2
      clear hnew hdn hp hr2
      by_cases c2:4294967296≤r2
      ·have c2i:(4294967296:Int)≤(r2:Int):=by omega
       have hq:p=Q0:=by
        have:=Jaj R1 d0 p r2 y1 y0 (by have j1:=H_hy1b.out;omega) H_hy0.out HNEW.out hp2 c2 (by rw [← H_hY.out,← HQ2.out];exact hQp)
        rw [← H_hY.out,← HQ2.out] at this;exact this
       clear hM HNEW hQp hp2 c2
       subst hq
       go_wp2_with fail
       first | go_ret2 | go_ret
       exact ⟨by first | rfl | simp,rfl⟩
      ·have c2i:¬ (4294967296:Int)≤(r2:Int):=by omega
       have c2j:(r2:Int)<4294967296:=by omega
       go_wp2_with fail
       go_roundw
       case rel=>
        first
         | exact ⟨p,r2,rfl,rfl,trivial,HNEW.out,hQp,by omega,by omega⟩
         | exact ⟨p,r2,rfl,rfl,rfl,HNEW.out,hQp,by omega,by omega⟩
         | ((repeat apply Exists.intro);exact ⟨⟨p,r2,rfl,rfl,rfl,HNEW.out,hQp,by omega,by omega⟩,rfl⟩)
       case measure=>(have hp:=HPP.out;simp [intOf] <;> omega)
     ·have c1i:¬ (4294967296:Int)≤(q:Int):=by omega
      have c1j:(q:Int)<4294967296:=by omega
      obtain ⟨mm,hmm⟩:∃ mm,mm=q*y0:=⟨_,rfl⟩
      have hmb:mm≤4294967295*4294967295:=by rw [hmm];exact Nat.mul_le_mul (by omega) (by have j1:=H_hy0.out;omega)
      obtain ⟨k2,hk2⟩:∃ k2,k2=4294967296*r+d0:=⟨_,rfl⟩
      have gm:IntKind.u64.wrap ((q:Int)*(y0:Int))=(mm:Nat):=by rw [← Int.natCast_mul,← hmm,IntKind.wrap_u64];omega
      clear hmb
      have jd:=H_hd2.out
      have gn:IntKind.u64.wrap (4294967296*(r:Int))=((4294967296*r:Nat):Int):=by rw [IntKind.wrap_u64];omega
      have gn2:IntKind.u64.wrap (4294967296*(r:Int)+(d0:Int))=(k2:Nat):=by rw [IntKind.wrap_u64];omega
      have gn3:IntKind.u64.wrap (((4294967296*r:Nat):Int)+(d0:Int))=(k2:Nat):=by rw [IntKind.wrap_u64];omega
      have gn4:IntKind.u64.wrap (4294967296*(r:Int))=4294967296*(r:Int):=by rw [IntKind.wrap_u64];omega
      have HMM:=Jja hmm;have HK2:=Jja hk2
      clear gn gn3 jd hmm hk2
      by_cases c3:k2<mm
      ·have c3i:(k2:Int)<(mm:Int):=by omega
       obtain ⟨p,hp⟩:∃ p,q=p+1:=by
        rcases Nat.eq_zero_or_pos q with e | e
        ·exfalso;have:=HMM.out;rw [e,Nat.zero_mul] at this;omega
        ·exact ⟨q-1,by omega⟩
       obtain ⟨r2,hr2⟩:∃ r2,r2=r+y1:=⟨_,rfl⟩
       have gp1:IntKind.u64.wrap ((q:Int)-1)=(p:Nat):=by rw [IntKind.wrap_u64];have j1:=hb1;omega
       have gr1:IntKind.u64.wrap ((r:Int)+(y1:Int))=(r2:Nat):=by rw [IntKind.wrap_u64];have j1:=H_hy1c.out;omega
       have hdn:=Jak R1 d0 q r y1 y0 H_hd2.out H_hu2.out hM.out.1 (Or.inr (by rw [← HK2.out,← HMM.out];exact c3))
       rw [← H_hY.out,← HQ2.out] at hdn
       have hnew:R1=p*y1+r2:=by have:=hM.out.1;rw [hp,Nat.add_mul] at this;omega
       have HNEW:=Jja hnew
       have hQp:Q0≤p:=by omega
       have hp2:p≤4294967296:=by have:=hM.out.2.2.1;omega
       have HPP:=Jja hp;have HR2:=Jja hr2
       clear hnew hdn hp hr2
       by_cases c2:4294967296≤r2
       ·have c2i:(4294967296:Int)≤(r2:Int):=by omega
        have hq:p=Q0:=by
         have:=Jaj R1 d0 p r2 y1 y0 (by have j1:=H_hy1b.out;omega) H_hy0.out HNEW.out hp2 c2 (by rw [← H_hY.out,← HQ2.out];exact hQp)
         rw [← H_hY.out,← HQ2.out] at this;exact this
        clear hM HNEW hQp hp2 c2
        subst hq
        go_wp2_with fail
        first | go_ret2 | go_ret
        exact ⟨by first | rfl | simp,rfl⟩
       ·have c2i:¬ (4294967296:Int)≤(r2:Int):=by omega
        have c2j:(r2:Int)<4294967296:=by omega
        go_wp2_with fail
        go_roundw
        case rel=>
         first
          | exact ⟨p,r2,rfl,rfl,trivial,HNEW.out,hQp,by omega,by omega⟩
          | exact ⟨p,r2,rfl,rfl,rfl,HNEW.out,hQp,by omega,by omega⟩
          | ((repeat apply Exists.intro);exact ⟨⟨p,r2,rfl,rfl,rfl,HNEW.out,hQp,by omega,by omega⟩,rfl⟩)
        case measure=>(have hp:=HPP.out;simp [intOf] <;> omega)
      ·have c3i:¬ (k2:Int)<(mm:Int):=by omega
       have c3j:(mm:Int)≤(k2:Int):=by omega
       have hq:q=Q0:=by
        have:=Jgz R1 d0 q r y1 y0 (by have j1:=H_hy1b.out;omega) hM.out.1 (by rw [← HK2.out,← HMM.out];omega) (by rw [← H_hY.out,← HQ2.out];exact hb3)
        rw [← H_hY.out,← HQ2.out] at this;exact this
       clear hM
       subst hq
       go_wp2_with fail
       first | go_ret2 | go_ret
       exact ⟨by first | rfl | simp,rfl⟩
end Go.Proofs.YtmmgmljkmmgjdaaGreatDoor
