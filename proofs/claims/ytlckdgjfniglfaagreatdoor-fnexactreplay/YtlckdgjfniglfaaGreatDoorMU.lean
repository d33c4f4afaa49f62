import Derived.Test.YtlckdgjfniglfaaGreatDoorS1
import Derived.Test.YtlckdgjfniglfaaGreatDoorMF
set_option linter.unusedVariables false
set_option maxHeartbeats 8000000
set_option maxRecDepth 100000
namespace Go.Proofs.YtlckdgjfniglfaaGreatDoor
open Proofs.Tryz
open Go.RowKit Go.Maps
theorem flat3_len {α:Type} (f:α->List Value) (hf:∀ a,(f a).length=3) (l:List α):(l.flatMap f).length=l.length*3:=by
 induction l with
 | nil=>rfl
 | cons x r ih=>rw [List.flatMap_cons,List.length_append,hf,ih,List.length_cons];omega
theorem rC_len (P:List R3) (vs:List Value):(rC P vs).length=P.length*3:=by
 unfold rC;rw [flat3_len _ (fun _=>rfl),List.length_range]
theorem rC_ext {P:List R3} {vs l:List Value} (hl:l.length=P.length*3) (h:∀ q,q<P.length->l[q*3]?=some (.string (P.getD q r3z).key)/\l[q*3+1]?=some (vs.getD q undef)/\l[q*3+2]?=some (.string (P.getD q r3z).out)):l=rC P vs:=by
 refine List.ext_getElem? fun j=>?_;by_cases hj:j<P.length*3
 · obtain ⟨q,r,e,hr⟩:∃ q r,j=q*3+r/\r<3:=⟨j / 3,j % 3,om_,om_⟩
   have hq:q<P.length:=om_;obtain ⟨a0,a1,a2⟩:=h q hq;obtain ⟨b0,b1,b2⟩:=rC_at P vs q hq;have:r=0\/r=1\/r=2:=om_;rcases this with rfl | rfl | rfl
   · rw [e,Nat.add_zero,a0,b0]
   · rw [e,a1,b1]
   · rw [e,a2,b2]
 · rw [List.getElem?_eq_none om_,List.getElem?_eq_none (by rw [rC_len];omega)]
theorem rC_key {P:List R3} {vs:List Value} {k:Nat} (hk:k<P.length) (t:ByteArray):(rC P vs).set (k*3) (.string t)=rC (P.set k ⟨t,(P.getD k r3z).gs,(P.getD k r3z).out⟩) vs:=by
 refine rC_ext (by simp [rC_len]) fun q hq=>?_;rw [List.length_set] at hq;obtain ⟨b0,b1,b2⟩:=rC_at P vs q hq;by_cases e:q=k
 · subst e
   rw [getD_set_same hq];rw [List.getElem?_set_self (by rw [rC_len];omega),List.getElem?_set_ne om_,List.getElem?_set_ne om_];exact ⟨rfl,b1,b2⟩
 · rw [getD_set_other (fun h=>e h.symm),List.getElem?_set_ne om_,List.getElem?_set_ne om_,List.getElem?_set_ne om_]
   exact ⟨b0,b1,b2⟩
theorem rC_out {P:List R3} {vs:List Value} {k:Nat} (hk:k<P.length) (t:ByteArray):(rC P vs).set (k*3+2) (.string t)=rC (P.set k ⟨(P.getD k r3z).key,(P.getD k r3z).gs,t⟩) vs:=by
 refine rC_ext (by simp [rC_len]) fun q hq=>?_;rw [List.length_set] at hq;obtain ⟨b0,b1,b2⟩:=rC_at P vs q hq;by_cases e:q=k
 · subst e
   rw [getD_set_same hq];rw [List.getElem?_set_self (by rw [rC_len];omega),List.getElem?_set_ne om_,List.getElem?_set_ne om_];exact ⟨b0,b1,rfl⟩
 · rw [getD_set_other (fun h=>e h.symm),List.getElem?_set_ne om_,List.getElem?_set_ne om_,List.getElem?_set_ne om_]
   exact ⟨b0,b1,b2⟩
theorem rC_gl {P:List R3} {vs:List Value} {k:Nat} (hk:k<P.length) (gs:List G3):rC P vs=rC (P.set k ⟨(P.getD k r3z).key,gs,(P.getD k r3z).out⟩) vs:=by
 refine rC_ext (by simp [rC_len]) fun q hq=>?_;rw [List.length_set] at hq;obtain ⟨b0,b1,b2⟩:=rC_at P vs q hq;by_cases e:q=k
 · subst e
   rw [getD_set_same hq];exact ⟨b0,b1,b2⟩
 · rw [getD_set_other (fun h=>e h.symm)]
   exact ⟨b0,b1,b2⟩
theorem rec_key {W:World} {N g cap:Nat} {P:List R3} {vs:List Value} {k:Nat} (h:RecOwn W N (.slice (some ⟨g,0,none⟩) P.length cap) P vs) (hk:k<P.length) (t:ByteArray):RecOwn (W.setCell ⟨g,k*3,none⟩ (.string t)) N (.slice (some ⟨g,0,none⟩) P.length cap) (P.set k ⟨t,(P.getD k r3z).gs,(P.getD k r3z).out⟩) vs:=by
 refine ⟨by simp [h.len],?_,fun i hi=>?_,fun i j hi hj=>h.apart i j (by simpa using hi) (by simpa using hj)⟩
 · have s:=(h.row.stored (k*3) (.string t)).1
   rw [rC_key hk] at s;rw [List.length_set];exact s
 · rw [List.length_set] at hi
   obtain ⟨a,c,e,h3⟩:=h.gl i hi;have eg:((P.set k ⟨t,(P.getD k r3z).gs,(P.getD k r3z).out⟩).getD i r3z).gs=(P.getD i r3z).gs:=by
    by_cases ei:i=k
    · subst ei;rw [getD_set_same hi]
    · rw [getD_set_other (fun h=>ei h.symm)]
   rw [eg];refine ⟨a,c,e,own_keep' h3 (fun q hq=>Below.heap_setCell _ _ _ _ (fun eq=>?_))⟩;have eq':q=g:=eq;subst eq';exact absurd (ofT_one (own_ofT h3 hq) (own_ofT h.row rfl)) dc_
theorem rec_out {W:World} {N g cap:Nat} {P:List R3} {vs:List Value} {k:Nat} (h:RecOwn W N (.slice (some ⟨g,0,none⟩) P.length cap) P vs) (hk:k<P.length) (t:ByteArray):RecOwn (W.setCell ⟨g,k*3+2,none⟩ (.string t)) N (.slice (some ⟨g,0,none⟩) P.length cap) (P.set k ⟨(P.getD k r3z).key,(P.getD k r3z).gs,t⟩) vs:=by
 refine ⟨by simp [h.len],?_,fun i hi=>?_,fun i j hi hj=>h.apart i j (by simpa using hi) (by simpa using hj)⟩
 · have s:=(h.row.stored (k*3+2) (.string t)).1
   rw [rC_out hk] at s;rw [List.length_set];exact s
 · rw [List.length_set] at hi
   obtain ⟨a,c,e,h3⟩:=h.gl i hi;have eg:((P.set k ⟨(P.getD k r3z).key,(P.getD k r3z).gs,t⟩).getD i r3z).gs=(P.getD i r3z).gs:=by
    by_cases ei:i=k
    · subst ei;rw [getD_set_same hi]
    · rw [getD_set_other (fun h=>ei h.symm)]
   rw [eg];refine ⟨a,c,e,own_keep' h3 (fun q hq=>Below.heap_setCell _ _ _ _ (fun eq=>?_))⟩;have eq':q=g:=eq;subst eq';exact absurd (ofT_one (own_ofT h3 hq) (own_ofT h.row rfl)) dc_
theorem rec_gl {W W':World} {N:Nat} {v:Value} {P:List R3} {vs:List Value} {k:Nat} (h:RecOwn W N v P vs) (hk:k<P.length) {a:Option Addr} {n c:Nat} {gs:List G3} (hv:vs.getD k undef=.slice a n c) (hg:W.grownBy W' (Value.slice a n c).ownBlock) (hn:gs.length=n) (ho:W'.ownsRow N 119 3 (.slice a n c) n (gC gs)):RecOwn W' N v (P.set k ⟨(P.getD k r3z).key,gs,(P.getD k r3z).out⟩) vs:=by
 subst hn;obtain ⟨ak,ck,ek,h3k⟩:=h.gl k hk;rw [<- hv] at hg;refine ⟨by simp [h.len],?_,fun i hi=>?_,fun i j hi hj=>h.apart i j (by simpa using hi) (by simpa using hj)⟩
 · rw [<- rC_gl hk,List.length_set]
   refine own_keep' h.row (fun q hq=>hg.block q (own_lt h.row hq) (fun e=>?_));rw [ek] at e;exact absurd (ofT_one (own_ofT h.row hq) (own_ofT h3k e.symm)) dc_
 · rw [List.length_set] at hi
   by_cases ei:i=k
   · subst ei
     rw [getD_set_same hi];exact ⟨a,c,hv,ho⟩
   · rw [getD_set_other (fun h=>ei h.symm)]
     obtain ⟨a3,c3,e,h3⟩:=h.gl i hi;refine ⟨a3,c3,e,own_keep' h3 (fun q hq=>hg.block q (own_lt h3 hq) (fun eq=>?_))⟩;rw [<- e] at hq;rcases h.apart k i hk hi (fun h=>ei h.symm) with hx | hx
     · rw [hx] at eq;cases eq
     · exact hx (by rw [<- eq,hq])
def kn (K:Int) (rs:List R3) (i:Nat):Int:=K+2*(i:Int)+3*(gsum (rs.take i):Int)
theorem kn_next {K:Int} {rs:List R3} {k:Nat} (h:k<rs.length):kn K rs (k+1)=kn K rs k+1+3*((rs.getD k r3z).gs.length:Int)+1:=by
 unfold kn;rw [gsum_next h];omega
theorem gsum_take (rs:List R3) (k:Nat):gsum (rs.take k)<=gsum rs:=by
 unfold gsum
 conv=>rhs;rw [<- List.take_append_drop k rs]
 rw [List.map_append,List.sum_append];omega
theorem gsum_le {rs:List R3} {k:Nat} (h:k<rs.length):gsum (rs.take k)+(rs.getD k r3z).gs.length<=gsum rs:=by
 rw [<- gsum_next h];exact gsum_take _ _
structure MkR1 (K:Int) (n:Nat) (y:R3):Prop where
 key:y.key=mtx K
 gs:MkG (K+1) n y.gs
 out:y.out=mtx (K+1+3*(n:Int))
def MkR (K:Int) (rs P:List R3):Prop:=P.length=rs.length/\∀ j,j<rs.length->MkR1 (kn K rs j) (rs.getD j r3z).gs.length (P.getD j r3z)
def recF (v:Value) (vs:List Value) (n:Nat) (k:Nat):Prop:=v.ownBlock=some k\/∃ i,i<n/\(vs.getD i undef).ownBlock=some k
theorem c53 (K:Int) (a:Option Addr) (cap N n:Nat) (rs:List R3) (vs:List Value) (w:World) (hn:rs.length=n) (h1:1<=K) (h2:K+2*(n:Int)+3*(gsum rs:Int)<=4900000) (hl:n<=1048576) (ho:RecOwn w N (.slice a n cap) rs vs):
 Calls prog 53 #[.slice a n cap,.int .i64 K] w fun e w'=>e=.returned (.int .i64 (kn K rs n))/\(∃ P,MkR K rs P/\RecOwn w' N (.slice a n cap) P vs)/\Chg (recF (.slice a n cap) vs n) w w':=by
 have HO:=hI_ ho;clear ho;go_enter func53,ntmps53
 go_wp2_with fail
 go_loopw [1,5] (fun q i wr=>∃ (k:Nat) (P:List R3),k<=n/\i=.int .i64 k/\q=.int .i64 (kn K rs k)/\P.length=n/\Hid (∀ j,j<k->MkR1 (kn K rs j) (rs.getD j r3z).gs.length (P.getD j r3z))/\Hid (∀ j,k<=j->(P.getD j r3z).gs.length=(rs.getD j r3z).gs.length)/\Hid (RecOwn wr N (.slice a n cap) P vs)/\Hid (Chg (recF (.slice a n cap) vs n) w wr)) (fun _ i _=>n - (intOf i).toNat)
 case atStart=>exact ⟨0,rs,Nat.zero_le _,rfl,by simp [kn,gsum],hn,fun j h=>absurd h (Nat.not_lt_zero _),fun j _=>rfl,HO,Chg.refl _ _⟩
 case round=>
  obtain ⟨k,P,hk,rfl,rfl,hP,hd,hr,hown,hg⟩:=hrel;by_cases hlt:k<n
  · have hk2:=kn_next (K:=K) (rs:=rs) (k:=k) om_
    have hgs:=gsum_le (rs:=rs) (k:=k) om_;have hkn:kn K rs k=K+2*(k:Int)+3*(gsum (rs.take k):Int):=rfl;have hgl:=hr.out k lr_;have hb1:1<=kn K rs k:=om_;have hb2:kn K rs k+3*((rs.getD k r3z).gs.length:Int)<=4900000:=om_;have hb3:(rs.getD k r3z).gs.length<=1048576+1048576:=om_;generalize hKK:kn K rs k=KK at*;generalize (rs.getD k r3z).gs.length=G at*;have HKK:=hI_ hKK;have HK2:=hI_ hk2;clear hkn hgs hKK hk2;subst hP;obtain ⟨g,rfl,hgw⟩:=row_addr hown.out.row om_;obtain ⟨a0,a1,a2⟩:=rC_at P vs k hlt;obtain ⟨ai,ci,ek,h3k⟩:=hown.out.gl k hlt;rw [hgl] at ek h3k;have q0:=(hown.out.row.cellAt (k*3) om_).trans a0;have f0:=hown.out.row.frozenAt (k*3);have q1:=(hown.out.row.cellAt (k*3+1) om_).trans a1;rw [ek] at q1;clear a0 a1 a2 h3k
    go_wp2_with fail
    refine (c23 _ _ om_ om_).mono ?_;rintro e w1 ⟨rfl,hb1'⟩;have p0:=(hb1'.cell (p:=⟨g,k*3,none⟩) hgw).trans q0;have pf:=(hb1'.frozen (p:=⟨g,k*3,none⟩) hgw).trans f0;have O1:RecOwn w1 N (.slice (some ⟨g,0,none⟩) P.length cap) P vs:=hown.out.keep (fun q t hT _ _=>hb1'.block q (ofT_lt hT));have hgw1:g<w1.heap.size:=Nat.lt_of_lt_of_le hgw hb1'.size;have q1':(w1.setCell ⟨g,k*3,none⟩ (.string (ofL (109::dec KK)))).cell? ⟨g,k*3+1,none⟩=some (.slice ai G ci):=(World.cell?_setCell_other _ _ _ _ (adr_ne om_)).trans ((hb1'.cell (p:=⟨g,k*3+1,none⟩) hgw).trans q1);have O2:=rec_key O1 hlt (mtx KK);have C2:Chg (recF (.slice (some ⟨g,0,none⟩) P.length cap) vs P.length) w (w1.setCell ⟨g,k*3,none⟩ (.string (mtx KK))):=hg.out.trans ((chg_below hb1').trans (chg_grown (O1.row.stored (k*3) (.string (mtx KK))).2 (fun q e=>.inl (by rw [<- e];rfl))));obtain ⟨ai',ci',ek',h3k⟩:=O2.gl k (by simpa using hlt);rw [getD_set_same hlt] at ek' h3k;simp only [hgl] at ek' h3k;rw [ek] at ek';cases ek';have E2:Hid (w1.setCell ⟨g,k*3,none⟩ (.string (mtx KK))=w1.setCell ⟨g,k*3,none⟩ (.string (ofL (109::dec KK)))):=rfl;have HO2:=hI_ O2;have HC2:=hI_ C2;have HEK:=hI_ ek;have h72:=c103 (KK+1) ai ci N (P.getD k r3z).gs (w1.setCell ⟨g,k*3,none⟩ (.string (mtx KK))) om_ om_ (by rw [hgl];omega) (by rw [hgl];exact h3k);rw [hgl] at h72;rw [E2.out] at h72;clear O1 O2 C2 h3k ek q0 q1 f0 hb1'
    go_wp2_with fail
    refine h72.mono ?_;rintro e w2 ⟨rfl,⟨gs',hmk,hrow2⟩,hg2⟩;rw [<- E2.out] at hg2;have O3:=rec_gl HO2.out (by simpa using hlt) HEK.out hg2 hmk.1 hrow2;have C3:Chg (recF (.slice (some ⟨g,0,none⟩) P.length cap) vs P.length) w w2:=HC2.out.trans (chg_grown hg2 (fun q e=>.inr ⟨k,hlt,by rw [HEK.out];exact e⟩));have HO3:=hI_ O3;have HC3:=hI_ C3;have HMK:=hI_ hmk;have hgw2:g<w2.heap.size:=by have:=hg2.size;simp at this;omega
    clear h72 hrow2 hg2 O3 C3 hmk p0 pf;have L3:((P.set k ⟨mtx KK,(P.getD k r3z).gs,(P.getD k r3z).out⟩).set k ⟨((P.set k ⟨mtx KK,(P.getD k r3z).gs,(P.getD k r3z).out⟩).getD k r3z).key,gs',((P.set k ⟨mtx KK,(P.getD k r3z).gs,(P.getD k r3z).out⟩).getD k r3z).out⟩)=P.set k ⟨mtx KK,gs',(P.getD k r3z).out⟩:=by
     rw [getD_set_same hlt,List.set_set]
    rw [L3] at HO3;clear L3;have PL:(P.set k ⟨mtx KK,gs',(P.getD k r3z).out⟩).length=P.length:=sm_;have R3':=HO3.out;rw [<- PL] at R3';obtain ⟨a0,a1,a2⟩:=rC_at (P.set k ⟨mtx KK,gs',(P.getD k r3z).out⟩) vs k (by rw [PL];exact hlt);have q2:=(R3'.row.cellAt (k*3+2) (by rw [PL];omega)).trans a2;have f2:=R3'.row.frozenAt (k*3+2);clear a0 a1 a2
    go_wp2_with fail
    refine (c23 _ _ om_ om_).mono ?_;rintro e w3 ⟨rfl,hb3'⟩;have p2:=(hb3'.cell (p:=⟨g,k*3+2,none⟩) hgw2).trans q2;have pf2:=(hb3'.frozen (p:=⟨g,k*3+2,none⟩) hgw2).trans f2;have O4:RecOwn w3 N (.slice (some ⟨g,0,none⟩) (P.set k ⟨mtx KK,gs',(P.getD k r3z).out⟩).length cap) (P.set k ⟨mtx KK,gs',(P.getD k r3z).out⟩) vs:=R3'.keep (fun q t hT _ _=>hb3'.block q (ofT_lt hT));have C5:Chg (recF (.slice (some ⟨g,0,none⟩) P.length cap) vs P.length) w (w3.setCell ⟨g,k*3+2,none⟩ (.string (mtx (KK+1+3*(G:Int))))):=HC3.out.trans ((chg_below hb3').trans (chg_grown (O4.row.stored (k*3+2) (.string (mtx (KK+1+3*(G:Int))))).2 (fun q e=>.inl (by rw [<- e];rfl))));have O5:=rec_out O4 (by rw [PL];exact hlt) (mtx (KK+1+3*(G:Int)));rw [getD_set_same hlt,List.set_set,PL] at O5;have HO5:=hI_ O5;have HC5:=hI_ C5;have HD5:Hid (∀ j,j<k+1->MkR1 (kn K rs j) (rs.getD j r3z).gs.length ((P.set k ⟨mtx KK,gs',mtx (KK+1+3*(G:Int))⟩).getD j r3z)):=fun j hj=>by
     by_cases e:j=k
     · subst e
       rw [getD_set_same hlt,HKK.out,<- hr.out j lr_,hgl];exact ⟨rfl,HMK.out,rfl⟩
     · rw [getD_set_other (fun h=>e h.symm)];exact hd.out j om_
    have HR5:Hid (∀ j,k+1<=j->((P.set k ⟨mtx KK,gs',mtx (KK+1+3*(G:Int))⟩).getD j r3z).gs.length=(rs.getD j r3z).gs.length):=fun j hj=>by
     rw [getD_set_other om_];exact hr.out j om_
    clear O4 O5 C5 R3' HO3 HC3 hd hr hown hg q2 f2 hb3' HO2 HC2;go_wp2;go_roundw
    case rel=>exact ⟨k+1,_,om_,by go_num,by rw [HK2.out],sm_,HD5,HR5,HO5,HC5⟩
    case measure=>simp [intOf];omega
  · obtain rfl:k=n:=om_
    go_wp2;go_ret;exact ⟨rfl,⟨P,⟨hP.trans hn.symm,fun j hj=>hd.out j om_⟩,hown.out⟩,hg.out⟩
theorem c56 (K:Int) (a:Option Addr) (cap n:Nat) (rs P:List R3) (w:World) (hn:rs.length=n) (h1:1<=K) (h2:K+2*(n:Int)+3*(gsum rs:Int)<=4900000) (hl:n<=1048576) (hP:MkR K rs P) (hat:RecsAt w a P):
 Calls prog 56 #[.slice a n cap,.int .i64 K] w fun e w'=>e=.returned (.int .i64 (kn K rs n))/\Below w.heap.size w w':=by
 obtain ⟨hPl,hPd⟩:=hP;obtain ⟨b,off,hc⟩:=recs_some hat;have HC:=hI_ hc;have HD:=hI_ hPd;clear hc hat hPd;go_enter func56,ntmps56
 go_wp2_with fail
 go_loopw [1,5] (fun q i wr=>∃ (k:Nat),k<=n/\i=.int .i64 k/\q=.int .i64 (kn K rs k)/\Below w.heap.size w wr) (fun _ i _=>n - (intOf i).toNat)
 case atStart=>exact ⟨0,Nat.zero_le _,rfl,by simp [kn,gsum],Below.refl _ _⟩
 case round=>
  obtain ⟨k,hk,rfl,rfl,hb⟩:=hrel;by_cases hlt:k<n
  · rcases HC.out with hss | ⟨ha,hbw,hcell⟩
    · rw [hss] at hPl;simp at hPl;omega
    subst ha;obtain ⟨ai,ci,g0,g1,g2,g3⟩:=(hcell k om_).below hbw hb;have hm:=HD.out k om_;have hk2:=kn_next (K:=K) (rs:=rs) (k:=k) om_;have hgs:=gsum_le (rs:=rs) (k:=k) om_;have hkn:kn K rs k=K+2*(k:Int)+3*(gsum (rs.take k):Int):=rfl;have hb1:1<=kn K rs k:=om_;have hb2:kn K rs k+3*((rs.getD k r3z).gs.length:Int)<=4900000:=om_;generalize kn K rs k=KK at*;generalize (rs.getD k r3z).gs.length=G at*;have HK2:=hI_ hk2;rw [hm.key] at g0;rw [hm.out] at g2;rw [hm.gs.1] at g1;have h73:=c104 (KK+1) ai ci G (P.getD k r3z).gs;have HG:=hI_ hm.gs;have hbl:b<wr.heap.size:=Nat.lt_of_lt_of_le hbw hb.size;have h41:=fun u=>c23 KK u om_ om_;have h41':=fun u=>c23 (KK+1+3*(G:Int)) u om_ om_;have em:ofL (109::dec KK)=mtx KK:=rfl;have em':ofL (109::dec (KK+1+3*(G:Int)))=mtx (KK+1+3*(G:Int)):=rfl;rw [em] at h41;rw [em'] at h41';have HG3:=hI_ g3;clear em em' hcell hm hgs hkn hk2 g3;generalize mtx KK=mx at*;generalize mtx (KK+1+3*(G:Int))=my at*
    go_wp2_with fail
    refine wp_region_held_drew (S:=(fun u=>u.cell? ⟨b,off+k*3,none⟩=some (.string mx))) kr_ ?_ fun hHeld=>?_
    · ((try dsimp only);first | exact g0 | exact (hb1'.cell (p:=⟨b,off+k*3,none⟩) hbl).trans g0)
    refine tq 0 hHeld ?_
    try simp only [qq]
    refine tq 1 hHeld ?_
    try simp only [qq]
    refine tq 2 hHeld ?_
    try simp only [qq]
    refine tq 3 hHeld ?_
    try simp only [qq]
    refine tq 4 hHeld ?_
    try simp only [qq]
    refine tq 5 hHeld ?_
    try simp only [qq]
    refine rq 6 fun K hK=>?_;go_simp;refine (h41 _).mono ?_;rintro e w1 ⟨rfl,hb0⟩;have hb1':=(Below.refl wr.heap.size wr).drew.trans hb0
    go_wp2_with fail
    clear hHeld;refine hK.out _ _ ?_ fun hHeld=>?_
    · ((try dsimp only);first | exact g0 | exact (hb1'.cell (p:=⟨b,off+k*3,none⟩) hbl).trans g0)
    clear hK K
    try simp only [qq]
    refine tq 7 hHeld ?_
    try simp only [qq]
    refine wpAnyH_done kr_ ?_ _;have i1:=(hb1'.cell (p:=⟨b,off+k*3+1,none⟩) hbl).trans g1;have i2:=(hb1'.cell (p:=⟨b,off+k*3+2,none⟩) hbl).trans g2;have hbl1:b<w1.heap.size:=Nat.lt_of_lt_of_le hbl hb1'.size;have h73':=h73 w1 om_ om_ om_ HG.out (gls_below HG3.out hb1');have hB1:Below w.heap.size w w1:=bT_ hb hb1';clear g0 g1 g2 h41 h73 HG HG3
    go_wp2_with fail
    refine h73'.mono ?_;rintro e w2 ⟨rfl,hb2'⟩;have j2:=(hb2'.cell (p:=⟨b,off+k*3+2,none⟩) hbl1).trans i2;have hbl2:b<w2.heap.size:=Nat.lt_of_lt_of_le hbl1 hb2'.size;have hB2:Below w.heap.size w w2:=bT_ hB1 hb2';clear h73' i1 i2
    go_wp2_with fail
    refine wp_region_held_drew (S:=(fun u=>u.cell? ⟨b,off+k*3+2,none⟩=some (.string my))) kr_ ?_ fun hHeld=>?_
    · ((try dsimp only);first | exact j2 | exact (hb3'.cell (p:=⟨b,off+k*3+2,none⟩) hbl2).trans j2)
    refine tq 0 hHeld ?_
    try simp only [qq]
    refine tq 1 hHeld ?_
    try simp only [qq]
    refine tq 2 hHeld ?_
    try simp only [qq]
    refine tq 3 hHeld ?_
    try simp only [qq]
    refine tq 4 hHeld ?_
    try simp only [qq]
    refine tq 5 hHeld ?_
    try simp only [qq]
    refine rq 6 fun K hK=>?_;go_simp;refine (h41' _).mono ?_;rintro e w3 ⟨rfl,hb30⟩;have hb3':=(Below.refl w2.heap.size w2).drew.trans hb30
    go_wp2_with fail
    clear hHeld;refine hK.out _ _ ?_ fun hHeld=>?_
    · ((try dsimp only);first | exact j2 | exact (hb3'.cell (p:=⟨b,off+k*3+2,none⟩) hbl2).trans j2)
    clear hK K
    try simp only [qq]
    refine tq 7 hHeld ?_
    try simp only [qq]
    refine wpAnyH_done kr_ ?_ _;go_wp2;go_roundw
    case rel=>exact ⟨k+1,om_,by go_num,by rw [HK2.out],bT_ hB2 hb3'⟩
    case measure=>simp [intOf];omega
  · obtain rfl:k=n:=om_
    go_wp2;go_ret;exact ⟨rfl,hb⟩
def stF (tv rv:Value) (vs:List Value) (n:Nat) (k:Nat):Prop:=tv.ownBlock=some k\/recF rv vs n k
def mkN (K:Int) (ts:List ByteArray) (rs:List R3):Int:=kn (K+(ts.length:Int)) rs rs.length
theorem c25 (K:Int) (s:St) (ta ra:Option Addr) (tc rc N:Nat) (vs:List Value) (w:World) (h1:1<=K) (h2:K+(s.ts.length:Int)+2*(s.rs.length:Int)+3*(gsum s.rs:Int)<=4900000) (hl:s.ts.length<=1048576) (hl2:s.rs.length<=1048576) (hN:N<=w.heap.size) (ht:w.ownsRow N 9 1 (.slice ta s.ts.length tc) s.ts.length (s.ts.map Value.string)) (ho:RecOwn w N (.slice ra s.rs.length rc) s.rs vs):
 Calls prog 25 #[.agg #[.int .i64 s.wd,.slice ta s.ts.length tc,.slice ra s.rs.length rc],.int .i64 K] w fun e w'=>e=.returned (.int .i64 (mkN K s.ts s.rs))/\(∃ T P,MkT K s.ts.length T/\MkR (K+(s.ts.length:Int)) s.rs P/\w'.ownsRow N 9 1 (.slice ta s.ts.length tc) s.ts.length (T.map Value.string)/\RecOwn w' N (.slice ra s.rs.length rc) P vs)/\Chg (stF (.slice ta s.ts.length tc) (.slice ra s.rs.length rc) vs s.rs.length) w w':=by
 have hB0:Below w.heap.size w (w.alloc (.cells #[.int .i64 s.wd,.slice ta s.ts.length tc,.slice ra s.rs.length rc] 29)):=bA_;have B0:=hI_ (blk_new w [.int .i64 s.wd,.slice ta s.ts.length tc,.slice ra s.rs.length rc] 29);have T0:=hI_ (ofT_new w #[.int .i64 s.wd,.slice ta s.ts.length tc,.slice ra s.rs.length rc] 29);have s0:(w.alloc (.cells #[.int .i64 s.wd,.slice ta s.ts.length tc,.slice ra s.rs.length rc] 29)).heap.size=w.heap.size+1:=sm_;have h39:=c10 K ta tc N s.ts _ h1 om_ hl (own_below ht hB0);have HR:=hI_ (ho.keep (W':=(w.alloc (.cells #[.int .i64 s.wd,.slice ta s.ts.length tc,.slice ra s.rs.length rc] 29))) (fun q t hT _ _=>hB0.block q (ofT_lt hT)));have HT:=hI_ (own_below ht hB0);have HT0:=hI_ ht;have c1:=B0.out 1 _ rfl;clear ht ho;go_enter func25,ntmps25
 go_wp2_with fail
 refine h39.mono ?_;rintro e w1 ⟨rfl,⟨T,hT,hrow⟩,hg1⟩;have ne0:some w.heap.size≠(Value.slice ta s.ts.length tc).ownBlock:=fun e=>by have:=own_lt HT0.out e.symm;omega
 have c2:w1.cell? ⟨w.heap.size,2,none⟩=some (.slice ra s.rs.length rc):=hg1.cell (B0.out 2 _ rfl) ne0;have hR1:RecOwn w1 N (.slice ra s.rs.length rc) s.rs vs:=HR.out.keep (fun q t hTq ht _=>hg1.block q (ofT_lt hTq) (fun e=>by
  have:=ofT_one hTq (own_ofT HT.out e.symm);rcases ht with rfl | rfl <;> exact absurd this dc_))
 have C1:=hI_ ((chg_below (F:=stF (.slice ta s.ts.length tc) (.slice ra s.rs.length rc) vs s.rs.length) hB0).trans (chg_grown hg1 (fun k e=>.inl e)));have HROW:=hI_ hrow;have HTM:=hI_ hT;have HR1:=hI_ hR1;have h40:=c53 (K+(s.ts.length:Int)) ra rc N s.rs.length s.rs vs w1 rfl om_ om_ hl2 hR1;clear h39 hrow hg1 hT hR1 c1
 go_wp2_with fail
 refine h40.mono ?_;rintro e w2 ⟨rfl,⟨P,hP,hR2⟩,hC2⟩;have HR2:=hI_ hR2;have HP:=hI_ hP;have C2:=hI_ (C1.out.trans (hC2.mono (fun k hk=>.inr hk)));have HW2:Hid (w2.ownsRow N 9 1 (.slice ta s.ts.length tc) s.ts.length (T.map Value.string)):=own_keep' HROW.out (fun q hq=>hC2.block q (own_lt HROW.out hq) (fun hf=>by
  rcases hf with e | ⟨i,hi,e⟩
  · exact absurd (ofT_one (own_ofT HROW.out hq) (own_ofT HR1.out.row e)) dc_
  · obtain ⟨a3,c3,e3,h3⟩:=HR1.out.gl i hi
    rw [e3] at e;exact absurd (ofT_one (own_ofT HROW.out hq) (own_ofT h3 e)) dc_))
 clear h40 hR2 hP hC2;go_wp2;go_ret;exact ⟨rfl,⟨T,P,HTM.out,HP.out,HW2.out,HR2.out⟩,C2.out⟩
theorem c27 (K:Int) (s:St) (T:List ByteArray) (P:List R3) (ta ra:Option Addr) (tc rc:Nat) (w:World) (h1:1<=K) (h2:K+(s.ts.length:Int)+2*(s.rs.length:Int)+3*(gsum s.rs:Int)<=4900000) (hl:s.ts.length<=1048576) (hl2:s.rs.length<=1048576) (hT:MkT K s.ts.length T) (hP:MkR (K+(s.ts.length:Int)) s.rs P) (ht:StrsAt w ta T) (hr:RecsAt w ra P):
 Calls prog 27 #[.agg #[.int .i64 s.wd,.slice ta s.ts.length tc,.slice ra s.rs.length rc],.int .i64 K] w fun e w'=>e=.returned (.int .i64 (mkN K s.ts s.rs))/\Below w.heap.size w w':=by
 have hB0:Below w.heap.size w (w.alloc (.cells #[.int .i64 s.wd,.slice ta s.ts.length tc,.slice ra s.rs.length rc] 29)):=bA_;have B0:=hI_ (blk_new w [.int .i64 s.wd,.slice ta s.ts.length tc,.slice ra s.rs.length rc] 29);have s0:(w.alloc (.cells #[.int .i64 s.wd,.slice ta s.ts.length tc,.slice ra s.rs.length rc] 29)).heap.size=w.heap.size+1:=sm_;have h42:=c55 K ta tc s.ts.length T _ h1 om_ hl hT (strs_below ht hB0);have HR:=hI_ (recs_below hr hB0);have c1:=B0.out 1 _ rfl;have HP:=hI_ hP;have hmk:0<=mkN K s.ts s.rs:=by unfold mkN kn;omega
 clear ht hr hP hT;go_enter func27,ntmps27
 go_wp2_with fail
 refine h42.mono ?_;rintro e w1 ⟨rfl,hb1⟩;have c2:=(B0.out.below hb1 om_) 2 _ rfl;have h43:=c56 (K+(s.ts.length:Int)) ra rc s.rs.length s.rs P w1 rfl om_ om_ hl2 HP.out (recs_below HR.out hb1);have hB1:Below w.heap.size w w1:=hB0.trans (hb1.mono om_);have em:kn (K+(s.ts.length:Int)) s.rs s.rs.length=mkN K s.ts s.rs:=rfl;rw [em] at h43;clear em h42 c1 HR HP;generalize hQ:mkN K s.ts s.rs=Q at*;have HQ:=hI_ hQ;clear hQ
 go_wp2_with fail
 refine h43.mono ?_;rintro e w2 ⟨rfl,hb2⟩;clear h43;go_wp2;go_ret;exact ⟨by rw [HQ.out];rfl,bT_ hB1 hb2⟩
theorem getD_eq {α:Type} {a b:List α} (z:α) (hn:a.length=b.length) (h:∀ j,j<b.length->a.getD j z=b.getD j z):a=b:=by
 refine List.ext_getElem hn fun j h1 h2=>?_;have:=h j h2;simpa [List.getD,List.getElem?_eq_getElem h1,List.getElem?_eq_getElem h2] using this
theorem c6o (a:Option Addr) (cap:Nat) (is:List ByteArray) (w:World) (hl:is.length<=1048576) (hat:StrsAt w a is):
 Calls prog 6 #[.slice a is.length cap] w fun e w'=>(e=.returned (.slice (some ⟨w.heap.size,0,none⟩) is.length is.length)/\w'.ownsRow w.heap.size 9 1 (.slice (some ⟨w.heap.size,0,none⟩) is.length is.length) is.length (is.map Value.string))/\Below w.heap.size w w':=by
 obtain ⟨b,off,hc⟩:=strs_some hat;have HC:=hI_ hc;clear hc hat;obtain ⟨i0,hi,hz0,hz1,hz2⟩:=info_parts info9;have hmk:∀ u:World,(Instr.makeSlice 22 (.int .i64 (is.length:Int)) (.int .i64 (is.length:Int))).run prog u=
  .ok (.slice (some ⟨u.heap.size,0,none⟩) is.length is.length) (u.alloc (.cells (madeCells #[.string ⟨#[]⟩] is.length) 9)):=fun u=>by
  have h:=run_make (P:=prog) u 22 9 i0 (.string ⟨#[]⟩) underlying22 hi hz0 .i64 .i64 (is.length:Int) (is.length:Int) om_ (Int.le_refl _) (by rw [hz2];omega) om_;simpa [hz1,Value.cells] using h
 have H0:Hid ((w.alloc (.cells (madeCells #[.string ⟨#[]⟩] is.length) 9)).ownsRow w.heap.size 9 1 (.slice (some ⟨w.heap.size,0,none⟩) is.length is.length) is.length ((List.replicate is.length (⟨#[]⟩:ByteArray)).map Value.string)):=by
  have h:=World.ownsRow_lit (base:=w.heap.size) (e:=9) (size:=1) w (madeCells #[.string ⟨#[]⟩] is.length) is.length lr_ (by unfold maxLen;omega) (by simp [size_madeCells]);rw [toList_madeCells_one] at h;rw [List.map_replicate];exact h
 go_enter func6,ntmps6
 go_wp2_with fail
 go_loopw [4] (fun i wr=>∃ (k:Nat) (P:List ByteArray),k<=is.length/\i=.int .i64 k/\P.length=is.length/\Hid (∀ j,j<k->P.getD j ByteArray.empty=is.getD j ByteArray.empty)/\Hid (wr.ownsRow w.heap.size 9 1 (.slice (some ⟨w.heap.size,0,none⟩) is.length is.length) is.length (P.map Value.string))/\Below w.heap.size w wr) (fun i _=>is.length - (intOf i).toNat)
 case atStart=>exact ⟨0,List.replicate is.length ⟨#[]⟩,Nat.zero_le _,rfl,sm_,fun j h=>absurd h (Nat.not_lt_zero _),H0,bA_⟩
 case round=>
  obtain ⟨k,P,hk,rfl,hP,hd,hown,hb⟩:=hrel;by_cases hlt:k<is.length
  · rcases HC.out with hss | ⟨ha,hbw,hcell⟩
    · rw [hss] at hlt;exact absurd hlt (Nat.not_lt_zero _)
    subst ha;have g0:wr.cell? ⟨b,off+k,none⟩=some (.string (is.getD k ByteArray.empty)):=(hb.cell (by exact hbw)).trans (hcell k hlt);have g1:wr.cell? ⟨w.heap.size,k,none⟩=some (.string (P.getD k ByteArray.empty)):=by
     rw [hown.out.cellAt k om_,List.getElem?_map,List.getElem?_eq_getElem om_];simp [List.getD,List.getElem?_eq_getElem (show k<P.length by omega)]
    have g2:=hown.out.frozenAt k;have HD:Hid (∀ j,j<k+1->(P.set k (is.getD k ByteArray.empty)).getD j ByteArray.empty=is.getD j ByteArray.empty):=fun j hj=>by
     by_cases e:j=k
     · subst e;exact getD_set_same om_
     · rw [getD_set_other (fun h=>e h.symm)];exact hd.out j om_
    obtain ⟨s1,s2⟩:=hown.out.stored k (.string (is.getD k ByteArray.empty));rw [<- List.map_set] at s1;have HS:=hI_ s1;clear hcell s1 s2;generalize is.getD k ByteArray.empty=x at*;go_wp2;go_roundw
    case rel=>exact ⟨k+1,_,om_,by go_num,by simpa using hP,HD,HS,hb.setCell sm_ _⟩
    case measure=>simp [intOf];omega
  · have hPe:P=is:=getD_eq ByteArray.empty hP (fun j hj=>hd.out j om_)
    subst hPe;have hown':=hown.out;go_wp2;go_ret;exact ⟨⟨rfl,hown'⟩,hb⟩
theorem c51e (a a':Option Addr) (cap cap':Nat) (is:List R3) (w:World) (hl:is.length<=1048576) (hs:∀ i,(is.getD i r3z).gs.length<=1048576) (hat:RecsAt w a is) (hat':RecsAt w a' is):
 Calls prog 51 #[.slice a is.length cap,.slice a' is.length cap'] w fun e w'=>e=.returned (.bool true)/\Below w.heap.size w w':=by
 obtain ⟨b,off,hc⟩:=recs_some hat;have HC:Hid (is=[]\/(a=some ⟨b,off,none⟩/\b<w.heap.size/\∀ i,i<is.length->RecAt w b (off+i*3) (is.getD i r3z))):=hc;obtain ⟨b',off',hc'⟩:=recs_some hat';have HC':Hid (is=[]\/(a'=some ⟨b',off',none⟩/\b'<w.heap.size/\∀ i,i<is.length->RecAt w b' (off'+i*3) (is.getD i r3z))):=hc';have HS:Hid (∀ i,(is.getD i r3z).gs.length<=1048576):=hs;clear hc hat hc' hat' hs;go_enter func51,ntmps51
 go_wp2_with fail
 go_loopw [5] (fun i wr=>∃ (k:Nat),k<=is.length/\i=.int .i64 k/\Below w.heap.size w wr) (fun i _=>is.length - (intOf i).toNat)
 case atStart=>exact ⟨0,Nat.zero_le _,rfl,Below.refl _ _⟩
 case round=>
  obtain ⟨k,hk,rfl,hb⟩:=hrel;by_cases hlt:k<is.length
  · rcases HC.out with hss | ⟨ha,hbw,hcell⟩
    · rw [hss] at hlt;exact absurd hlt (Nat.not_lt_zero _)
    rcases HC'.out with hss | ⟨ha',hbw',hcell'⟩
    · rw [hss] at hlt;exact absurd hlt (Nat.not_lt_zero _)
    subst ha;subst ha';obtain ⟨ai,ci,e0,e1,e2,e3⟩:=(hcell k hlt).below hbw hb;obtain ⟨bi,di,f0,f1,f2,f3⟩:=(hcell' k hlt).below hbw' hb;have hxl:=HS.out k;generalize is.getD k r3z=x at*;have HE:Hid (GlsAt wr ai x.gs):=e3;have HF:Hid (GlsAt wr bi x.gs):=f3;clear hcell hcell' e3 f3
    go_wp2_with fail
    go_region_with (go_at_call 102;refine (c102 x ai bi ci di _ hxl (gls_below HE.out (Below.refl _ _).drew) (gls_below HF.out (Below.refl _ _).drew)).mono ?_;rintro e w1 ⟨rfl,hb1⟩)
    all_goals go_wp2
    all_goals go_roundw
    all_goals first
     | exact ⟨k+1,om_,by go_num,(hb.drew).trans (hb1.mono hb.size)⟩
     | (simp [intOf];omega)
  · go_wp2
    go_ret;exact ⟨rfl,hb⟩
theorem c22e (ta ra ta' ra':Option Addr) (tc rc tc' rc':Nat) (s:St) (w:World) (hs:s.ts.length<=1048576/\s.rs.length<=1048576/\∀ i,(s.rs.getD i r3z).gs.length<=1048576) (hat:StAt w ta ra s) (hat':StAt w ta' ra' s):
 Calls prog 22 #[.agg #[.int .i64 s.wd,.slice ta s.ts.length tc,.slice ra s.rs.length rc],.agg #[.int .i64 s.wd,.slice ta' s.ts.length tc',.slice ra' s.rs.length rc']] w fun e w'=>e=.returned (.bool true)/\Below w.heap.size w w':=by
 have HS:Hid (s.ts.length<=1048576/\s.rs.length<=1048576/\∀ i,(s.rs.getD i r3z).gs.length<=1048576):=hs;have HA:Hid (StAt w ta ra s):=hat;have HA':Hid (StAt w ta' ra' s):=hat';have hB0:Below w.heap.size w ((w.alloc (.cells #[.int .i64 s.wd,.slice ta s.ts.length tc,.slice ra s.rs.length rc] 29)).alloc (.cells #[.int .i64 s.wd,.slice ta' s.ts.length tc',.slice ra' s.rs.length rc'] 29)):=bA_.alloc sm_ _;have h27:=c9 ta ta' tc tc' s.ts _ hs.1 (strs_below hat.1 hB0) (strs_below hat'.1 hB0);clear hs hat hat';go_enter func22,ntmps22
 go_wp2_with fail
 refine h27.mono ?_;rintro e w1 ⟨rfl,hb1⟩;have hB1:Below w.heap.size w w1:=hB0.trans (hb1.mono so_);have g2:w1.cell? ⟨w.heap.size,2,none⟩=some (.slice ra s.rs.length rc):=by rw [hb1.cell so_];simp [go_sem]
 have g3:w1.cell? ⟨w.heap.size+1,2,none⟩=some (.slice ra' s.rs.length rc'):=by rw [hb1.cell sm_];simp [go_sem]
 have h28:=c51e ra ra' rc rc' s.rs w1 HS.out.2.1 HS.out.2.2 (recs_below HA.out.2 hB1) (recs_below HA'.out.2 hB1);clear h27
 go_wp2_with fail
 refine h28.mono ?_;rintro e w2 ⟨rfl,hb2⟩;have hB2:Below w.heap.size w w2:=bT_ hB1 hb2;clear h28;go_wp2;go_ret;exact ⟨rfl,hB2⟩
theorem stF_lo {W:World} {base:Nat} {s:St} {tv rv:Value} {vs:List Value} (h1:W.ownsRow base 9 1 tv s.ts.length (s.ts.map Value.string)) (h2:RecOwn W base rv s.rs vs) {q:Nat} (hq:stF tv rv vs s.rs.length q):base<=q/\q<W.heap.size/\∃ t,OfT W q t/\(t=9\/t=96\/t=119):=by
 rcases hq with e | e | ⟨i,hi,e⟩
 · exact ⟨own_blk h1 e,own_lt h1 e,9,own_ofT h1 e,.inl rfl⟩
 · exact ⟨own_blk h2.row e,own_lt h2.row e,96,own_ofT h2.row e,.inr (.inl rfl)⟩
 · obtain ⟨a,c,e3,h3⟩:=h2.gl i hi
   rw [e3] at e;exact ⟨own_blk h3 e,own_lt h3 e,119,own_ofT h3 e,.inr (.inr rfl)⟩
theorem mkN_eq (K:Int) (ts:List ByteArray) (rs:List R3):mkN K ts rs=K+(ts.length:Int)+2*(rs.length:Int)+3*(gsum rs:Int):=by
 unfold mkN kn;rw [List.take_length]
end Go.Proofs.YtlckdgjfniglfaaGreatDoor
