import Derived.Test.YtlckdgjfniglfaaGreatDoorMB
import Derived.Test.YtlckdgjfniglfaaGreatDoortW3
set_option linter.unusedVariables false
set_option maxHeartbeats 8000000
set_option maxRecDepth 100000
namespace Go.Proofs.YtlckdgjfniglfaaGreatDoor
open Proofs.Tryz
open Go.RowKit Go.Maps
structure Chg (F:Nat->Prop) (w w':World):Prop where
 os:w'.os=w.os
 tape:w'.tape=w.tape
 output:w'.output=w.output
 size:w.heap.size<=w'.heap.size
 block:∀ k,k<w.heap.size->¬ F k->w'.heap[k]?=w.heap[k]?
theorem Chg.refl (F:Nat->Prop) (w:World):Chg F w w:=⟨rfl,rfl,rfl,Nat.le_refl _,fun _ _ _=>rfl⟩
theorem Chg.trans {F:Nat->Prop} {u v w:World} (h:Chg F u v) (h2:Chg F v w):Chg F u w:=⟨h2.os.trans h.os,h2.tape.trans h.tape,h2.output.trans h.output,Nat.le_trans h.size h2.size,fun k hk hn=>(h2.block k (Nat.lt_of_lt_of_le hk h.size) hn).trans (h.block k hk hn)⟩
theorem Chg.mono {F G:Nat->Prop} {u v:World} (h:Chg F u v) (hg:∀ k,F k->G k):Chg G u v:=⟨h.os,h.tape,h.output,h.size,fun k hk hn=>h.block k hk (fun hf=>hn (hg k hf))⟩
theorem chg_below {F:Nat->Prop} {u v:World} (hb:Below u.heap.size u v):Chg F u v:=⟨hb.os,hb.tape,hb.output,hb.size,fun k hk _=>hb.block k hk⟩
theorem chg_grown {F:Nat->Prop} {u v:World} {row:Option Nat} (hg:u.grownBy v row) (h:∀ k,row=some k->F k):Chg F u v:=⟨hg.os,hg.tape,hg.output,hg.size,fun k hk hn=>hg.block k hk (fun e=>hn (h k e.symm))⟩
theorem Chg.below {F:Nat->Prop} {u v:World} {N:Nat} (h:Chg F u v) (hN:N<=u.heap.size) (hF:∀ k,F k->N<=k):Below N u v:=⟨h.os,h.tape,h.output,h.size,fun k hk=>h.block k om_ (fun hf=>by have:=hF k hf;omega)⟩
theorem grown_refl (w:World) (row:Option Nat):w.grownBy w row:=⟨rfl,rfl,rfl,Nat.le_refl _,fun _ _ _=>rfl⟩
theorem grown_trans {u v w:World} {row:Option Nat} (h:u.grownBy v row) (h2:v.grownBy w row):u.grownBy w row:=⟨h2.os.trans h.os,h2.tape.trans h.tape,h2.output.trans h.output,Nat.le_trans h.size h2.size,fun k hk hn=>(h2.block k (Nat.lt_of_lt_of_le hk h.size) hn).trans (h.block k hk hn)⟩
theorem grown_call {u v:World} {row:Option Nat} (hb:Below u.heap.size u v):u.grownBy v row:=⟨hb.os,hb.tape,hb.output,hb.size,fun k hk _=>hb.block k hk⟩
theorem row_addr {W:World} {base e size n c:Nat} {a:Option Addr} {xs:List Value} (h:W.ownsRow base e size (.slice a n c) n xs) (hn:0<n):∃ g,a=some ⟨g,0,none⟩/\g<W.heap.size:=by
 rcases h.2 with ⟨_,h0⟩ | ⟨g,cap,cur,hv,_,hh,_⟩
 · omega
 · simp only [Value.slice.injEq] at hv
   exact ⟨g,hv.1,(Array.getElem?_eq_some_iff.1 hh).1⟩
theorem flat3 {α:Type} (f:α->List Value) (hf:∀ a,(f a).length=3):∀ (l:List α) (k:Nat) (hk:k<l.length) (j:Nat),j<3->(l.flatMap f)[k*3+j]?=(f (l[k]))[j]?
 | [],k,hk,_,_=>absurd hk (Nat.not_lt_zero _)
 | x::r,0,_,j,hj=>by
  rw [List.flatMap_cons,List.getElem?_append_left (by rw [hf];omega)];simp
 | x::r,k+1,hk,j,hj=>by
  have ih:=flat3 f hf r k (by simpa using hk) j hj;rw [List.flatMap_cons,List.getElem?_append_right (by rw [hf];omega),hf];have e:(k+1)*3+j - 3=k*3+j:=om_;rw [e,ih];simp
theorem rC_at (rs:List R3) (vs:List Value) (k:Nat) (hk:k<rs.length):(rC rs vs)[k*3]?=some (.string (rs.getD k r3z).key)/\(rC rs vs)[k*3+1]?=some (vs.getD k undef)/\(rC rs vs)[k*3+2]?=some (.string (rs.getD k r3z).out):=by
 have h:=flat3 (fun i=>[Value.string (rs.getD i r3z).key,vs.getD i undef,Value.string (rs.getD i r3z).out]) (fun _=>rfl) (List.range rs.length) k (by simpa using hk);have h0:=h 0 om_;have h1:=h 1 om_;have h2:=h 2 om_;simp only [List.getElem_range] at h0 h1 h2;exact ⟨h0,h1,h2⟩
theorem recs_own {W:World} {base:Nat} {a2:Option Addr} {c2:Nat} {rs:List R3} {vs:List Value} (h:RecOwn W base (.slice a2 rs.length c2) rs vs):RecsAt W a2 rs:=by
 have hrow:=h.row;rcases h.row.2 with ⟨hv,h0⟩ | ⟨g,cap,cur,hv,hg,hh,_⟩
 · exact .inl (List.length_eq_zero_iff.1 h0)
 · simp only [Value.slice.injEq] at hv
   obtain ⟨rfl,_,rfl⟩:=hv;refine .inr ⟨g,0,rfl,(Array.getElem?_eq_some_iff.1 hh).1,fun k hk=>?_⟩;obtain ⟨a0,a1,a2⟩:=rC_at rs vs k hk;obtain ⟨a,c,e,h3⟩:=h.gl k hk;refine ⟨a,c,?_,?_,?_,gls_row h3⟩
   · rw [Nat.zero_add,hrow.cellAt (k*3) om_];exact a0
   · rw [Nat.zero_add,hrow.cellAt (k*3+1) om_,a1,e]
   · rw [Nat.zero_add,hrow.cellAt (k*3+2) om_];exact a2
def mtx (k:Int):ByteArray:=ofL (109::dec k)
def MkT (K:Int) (n:Nat) (P:List ByteArray):Prop:=P.length=n/\∀ j,j<n->P.getD j ByteArray.empty=mtx (K+(j:Int))
theorem getD_set_same {α:Type} {l:List α} {k:Nat} {x z:α} (h:k<l.length):(l.set k x).getD k z=x:=by simp [List.getD,h]
theorem getD_set_other {α:Type} {l:List α} {k j:Nat} {x z:α} (h:k≠j):(l.set k x).getD j z=l.getD j z:=by simp [List.getD,h]
theorem c10 (K:Int) (a:Option Addr) (cap N:Nat) (ts:List ByteArray) (w:World) (h1:1<=K) (h2:K<=5000000) (hl:ts.length<=1048576) (ho:w.ownsRow N 9 1 (.slice a ts.length cap) ts.length (ts.map Value.string)):
 Calls prog 10 #[.slice a ts.length cap,.int .i64 K] w fun e w'=>e=.returned (.int .i64 (K+(ts.length:Int)))/\(∃ P,MkT K ts.length P/\w'.ownsRow N 9 1 (.slice a ts.length cap) ts.length (P.map Value.string))/\w.grownBy w' (Value.slice a ts.length cap).ownBlock:=by
 have HO:=hI_ ho;clear ho;go_enter func10,ntmps10
 go_wp2_with fail
 go_loopw [1,5] (fun q i wr=>∃ (k:Nat) (P:List ByteArray),k<=ts.length/\i=.int .i64 k/\q=.int .i64 (K+(k:Int))/\P.length=ts.length/\Hid (∀ j,j<k->P.getD j ByteArray.empty=mtx (K+(j:Int)))/\Hid (wr.ownsRow N 9 1 (.slice a ts.length cap) ts.length (P.map Value.string))/\Hid (w.grownBy wr (Value.slice a ts.length cap).ownBlock)) (fun _ i _=>ts.length - (intOf i).toNat)
 case atStart=>exact ⟨0,ts,Nat.zero_le _,rfl,sm_,rfl,fun j h=>absurd h (Nat.not_lt_zero _),HO,grown_refl _ _⟩
 case round=>
  obtain ⟨k,P,hk,rfl,rfl,hP,hd,hown,hg⟩:=hrel;by_cases hlt:k<ts.length
  · obtain ⟨g,rfl,hgl⟩:=row_addr hown.out om_
    have q0:wr.cell? ⟨g,k,none⟩=some (.string (P.getD k ByteArray.empty)):=by
     rw [hown.out.cellAt k om_,List.getElem?_map,List.getElem?_eq_getElem om_];simp [List.getD,List.getElem?_eq_getElem (show k<P.length by omega)]
    have f0:=hown.out.frozenAt k
    go_wp2_with fail
    refine (c23 (K+(k:Int)) wr om_ om_).mono ?_;rintro e w1 ⟨rfl,hb1⟩;have p0:=(hb1.cell (p:=⟨g,k,none⟩) hgl).trans q0;have pf:=(hb1.frozen (p:=⟨g,k,none⟩) hgl).trans f0;obtain ⟨s1,s2⟩:=(own_below hown.out hb1).stored k (.string (mtx (K+(k:Int))));rw [<- List.map_set] at s1;have HS:=hI_ s1;have HG:=hI_ (grown_trans hg.out (grown_trans (grown_call hb1) s2));have HD:Hid (∀ j,j<k+1->(P.set k (mtx (K+(k:Int)))).getD j ByteArray.empty=mtx (K+(j:Int))):=fun j hj=>by
     by_cases e:j=k
     · subst e;exact getD_set_same om_
     · rw [getD_set_other (fun h=>e h.symm)];exact hd.out j om_
    clear s1 s2 hown hg hd hb1;go_wp2;go_roundw
    case rel=>exact ⟨k+1,_,om_,by go_num,by go_num,by simpa using hP,HD,HS,HG⟩
    case measure=>simp [intOf];omega
  · obtain rfl:k=ts.length:=om_
    go_wp2;go_ret;exact ⟨rfl,⟨P,⟨hP,hd.out⟩,hown.out⟩,hg.out⟩
def mkG (K:Int):G3:=⟨(K % 3==0),mtx (K+1),mtx (K+2)⟩
def MkG (K:Int) (n:Nat) (P:List G3):Prop:=P.length=n/\∀ j,j<n->P.getD j g3z=mkG (K+3*(j:Int))
theorem gC_set:∀ (P:List G3) (k:Nat) (x:G3),k<P.length->gC (P.set k x)=(((gC P).set (k*3) (.bool x.nm)).set (k*3+1) (.string x.tl)).set (k*3+2) (.string x.ar)
 | [],k,x,h=>absurd h (Nat.not_lt_zero _)
 | y::r,0,x,h=>rfl
 | y::r,k+1,x,h=>by
  have ih:=gC_set r k x (by simpa using h);have e1:(k+1)*3=k*3+1+1+1:=om_;rw [e1];show _::_::_::gC (r.set k x)=_;rw [ih];rfl
theorem c103 (K:Int) (a:Option Addr) (cap N:Nat) (gs:List G3) (w:World) (h1:1<=K) (h2:K<=5000000) (hl:gs.length<=1640000) (ho:w.ownsRow N 119 3 (.slice a gs.length cap) gs.length (gC gs)):
 Calls prog 103 #[.slice a gs.length cap,.int .i64 K] w fun e w'=>e=.returned (.int .i64 (K+3*(gs.length:Int)))/\(∃ P,MkG K gs.length P/\w'.ownsRow N 119 3 (.slice a gs.length cap) gs.length (gC P))/\w.grownBy w' (Value.slice a gs.length cap).ownBlock:=by
 have HO:=hI_ ho;clear ho;go_enter func103,ntmps103
 go_wp2_with fail
 go_loopw [1,5] (fun q i wr=>∃ (k:Nat) (P:List G3),k<=gs.length/\i=.int .i64 k/\q=.int .i64 (K+3*(k:Int))/\P.length=gs.length/\Hid (∀ j,j<k->P.getD j g3z=mkG (K+3*(j:Int)))/\Hid (wr.ownsRow N 119 3 (.slice a gs.length cap) gs.length (gC P))/\Hid (w.grownBy wr (Value.slice a gs.length cap).ownBlock)) (fun _ i _=>gs.length - (intOf i).toNat)
 case atStart=>exact ⟨0,gs,Nat.zero_le _,rfl,sm_,rfl,fun j h=>absurd h (Nat.not_lt_zero _),HO,grown_refl _ _⟩
 case round=>
  obtain ⟨k,P,hk,rfl,rfl,hP,hd,hown,hg⟩:=hrel;by_cases hlt:k<gs.length
  · obtain ⟨g,rfl,hgl⟩:=row_addr hown.out om_
    obtain ⟨a0,a1,a2⟩:=gC_at P k om_;have q0:=(hown.out.cellAt (k*3) om_).trans a0;have q1:=(hown.out.cellAt (k*3+1) om_).trans a1;have q2:=(hown.out.cellAt (k*3+2) om_).trans a2;have f0:=hown.out.frozenAt (k*3);clear a0 a1 a2;obtain ⟨s1,s2⟩:=hown.out.stored (k*3) (.bool (K % 3==0));have HS1:=hI_ s1;have HG1:=hI_ (grown_trans hg.out s2);clear s1 s2
    go_wp2_with fail
    refine (c23 _ _ om_ om_).mono ?_;rintro e w1 ⟨rfl,hb1⟩;have hgl1:g<w1.heap.size:=by have:=hb1.size;simp at this;omega
    have HS1':=hI_ (own_below HS1.out hb1);have HG1':=hI_ (grown_trans HG1.out (grown_call hb1));have r1:w1.cell? ⟨g,k*3+1,none⟩=some (.string (P.getD k g3z).tl):=(hb1.cell (p:=⟨g,k*3+1,none⟩) (by simpa using hgl)).trans ((World.cell?_setCell_other _ _ _ _ (adr_ne om_)).trans q1);have f1:=HS1'.out.frozenAt (k*3+1);obtain ⟨s1,s2⟩:=HS1'.out.stored (k*3+1) (.string (ofL (109::dec (K+3*(k:Int)+1))));have HS2:=hI_ s1;have HG2:=hI_ (grown_trans HG1'.out s2);have r2:w1.cell? ⟨g,k*3+2,none⟩=some (.string (P.getD k g3z).ar):=(hb1.cell (p:=⟨g,k*3+2,none⟩) (by simpa using hgl)).trans ((World.cell?_setCell_other _ _ _ _ (adr_ne om_)).trans q2);clear s1 s2 hb1 q0 q1 q2 f0 HS1 HG1
    go_wp2_with fail
    refine (c23 _ _ om_ om_).mono ?_;rintro e w2 ⟨rfl,hb2⟩;have HS2':=hI_ (own_below HS2.out hb2);have HG2':=hI_ (grown_trans HG2.out (grown_call hb2));have t2:w2.cell? ⟨g,k*3+2,none⟩=some (.string (P.getD k g3z).ar):=(hb2.cell (p:=⟨g,k*3+2,none⟩) (by simpa using hgl1)).trans ((World.cell?_setCell_other _ _ _ _ (adr_ne om_)).trans r2);have f2:=HS2'.out.frozenAt (k*3+2);obtain ⟨s1,s2⟩:=HS2'.out.stored (k*3+2) (.string (ofL (109::dec (K+3*(k:Int)+1+1))));have e2:K+3*(k:Int)+1+1=K+3*(k:Int)+2:=om_;have eG:gC (P.set k (mkG (K+3*(k:Int))))=(((gC P).set (k*3) (.bool (K % 3==0))).set (k*3+1) (.string (ofL (109::dec (K+3*(k:Int)+1))))).set (k*3+2) (.string (ofL (109::dec (K+3*(k:Int)+1+1)))):=by
     rw [gC_set _ _ _ om_,e2];unfold mkG mtx;simp only [];rw [Int.add_mul_emod_self_left]
    rw [<- eG] at s1;have HS3:=hI_ s1;have HG3:=hI_ (grown_trans HG2'.out s2);have HD:Hid (∀ j,j<k+1->(P.set k (mkG (K+3*(k:Int)))).getD j g3z=mkG (K+3*(j:Int))):=fun j hj=>by
     by_cases e:j=k
     · subst e;exact getD_set_same om_
     · rw [getD_set_other (fun h=>e h.symm)];exact hd.out j om_
    clear e2 s1 s2 hb2 r1 r2 f1 HS1' HS2 HG1' HG2 HS2' HG2' eG hown hg hd;go_wp2;go_roundw
    case rel=>exact ⟨k+1,_,om_,by go_num,by go_num,by simpa using hP,HD,HS3,HG3⟩
    case measure=>simp [intOf];omega
  · obtain rfl:k=gs.length:=om_
    go_wp2;go_ret;exact ⟨rfl,⟨P,⟨hP,hd.out⟩,hown.out⟩,hg.out⟩
theorem c55 (K:Int) (a:Option Addr) (cap:Nat) (n:Nat) (P:List ByteArray) (w:World) (h1:1<=K) (h2:K<=5000000) (hl:n<=1048576) (hP:MkT K n P) (hat:StrsAt w a P):
 Calls prog 55 #[.slice a n cap,.int .i64 K] w fun e w'=>e=.returned (.int .i64 (K+(n:Int)))/\Below w.heap.size w w':=by
 obtain ⟨hPl,hPd⟩:=hP;obtain ⟨b,off,hc⟩:=strs_some hat;have HC:=hI_ hc;have HD:=hI_ hPd;clear hc hat hPd;go_enter func55,ntmps55
 go_wp2_with fail
 go_loopw [1,5] (fun q i wr=>∃ (k:Nat),k<=n/\i=.int .i64 k/\q=.int .i64 (K+(k:Int))/\Below w.heap.size w wr) (fun _ i _=>n - (intOf i).toNat)
 case atStart=>exact ⟨0,Nat.zero_le _,rfl,sm_,Below.refl _ _⟩
 case round=>
  obtain ⟨k,hk,rfl,rfl,hb⟩:=hrel;by_cases hlt:k<n
  · rcases HC.out with hss | ⟨ha,hbw,hcell⟩
    · rw [hss] at hPl;simp at hPl;omega
    subst ha;have g0:=(hb.cell (p:=⟨b,off+k,none⟩) hbw).trans (hcell k om_);rw [HD.out k hlt] at g0;have hbl:b<wr.heap.size:=Nat.lt_of_lt_of_le hbw hb.size;have h41:=fun u=>c23 (K+(k:Int)) u om_ om_;have em:ofL (109::dec (K+(k:Int)))=mtx (K+(k:Int)):=rfl;rw [em] at h41;clear em hcell;generalize mtx (K+(k:Int))=mx at*
    go_wp2_with fail
    refine wp_region_held_drew (S:=(fun u=>u.cell? ⟨b,off+k,none⟩=some (.string mx))) kr_ ?_ fun hHeld=>?_
    · ((try dsimp only);first | exact g0 | exact (hb1.cell (p:=⟨b,off+k,none⟩) hbl).trans g0)
    refine tq 0 hHeld ?_
    try simp only [qq]
    refine tq 1 hHeld ?_
    try simp only [qq]
    refine tq 2 hHeld ?_
    try simp only [qq]
    refine tq 3 hHeld ?_
    try simp only [qq]
    refine tq 4 hHeld ?_
    try simp only [qq]
    refine rq 5 fun K hK=>?_;go_simp;refine (h41 _).mono ?_;rintro e w1 ⟨rfl,hb0⟩;have hb1:=(Below.refl wr.heap.size wr).drew.trans hb0
    go_wp2_with fail
    clear hHeld;refine hK.out _ _ ?_ fun hHeld=>?_
    · ((try dsimp only);first | exact g0 | exact (hb1.cell (p:=⟨b,off+k,none⟩) hbl).trans g0)
    clear hK K
    try simp only [qq]
    refine tq 6 hHeld ?_
    try simp only [qq]
    refine wpAnyH_done kr_ ?_ _;go_wp2;go_roundw
    case rel=>exact ⟨k+1,om_,by go_num,by go_num,bT_ hb hb1⟩
    case measure=>simp [intOf];omega
  · obtain rfl:k=n:=om_
    go_wp2;go_ret;exact ⟨rfl,hb⟩
theorem c104 (K:Int) (a:Option Addr) (cap:Nat) (n:Nat) (P:List G3) (w:World) (h1:1<=K) (h2:K<=5000000) (hl:n<=1640000) (hP:MkG K n P) (hat:GlsAt w a P):
 Calls prog 104 #[.slice a n cap,.int .i64 K] w fun e w'=>e=.returned (.int .i64 (K+3*(n:Int)))/\Below w.heap.size w w':=by
 obtain ⟨hPl,hPd⟩:=hP;obtain ⟨b,off,hc⟩:=gls_some hat;have HC:=hI_ hc;have HD:=hI_ hPd;clear hc hat hPd;go_enter func104,ntmps104
 go_wp2_with fail
 go_loopw [1,5] (fun q i wr=>∃ (k:Nat),k<=n/\i=.int .i64 k/\q=.int .i64 (K+3*(k:Int))/\Below w.heap.size w wr) (fun _ i _=>n - (intOf i).toNat)
 case atStart=>exact ⟨0,Nat.zero_le _,rfl,sm_,Below.refl _ _⟩
 case round=>
  obtain ⟨k,hk,rfl,rfl,hb⟩:=hrel;by_cases hlt:k<n
  · rcases HC.out with hss | ⟨ha,hbw,hcell⟩
    · rw [hss] at hPl;simp at hPl;omega
    subst ha;obtain ⟨c0,c1,c2⟩:=hcell k om_;rw [HD.out k hlt] at c0 c1 c2;have g0:wr.cell? ⟨b,off+k*3,none⟩=some (.bool ((K+3*(k:Int)) % 3==0)):=(hb.cell (p:=⟨b,off+k*3,none⟩) hbw).trans c0;have g1:wr.cell? ⟨b,off+k*3+1,none⟩=some (.string (mtx (K+3*(k:Int)+1))):=(hb.cell (p:=⟨b,off+k*3+1,none⟩) hbw).trans c1;have g2:wr.cell? ⟨b,off+k*3+2,none⟩=some (.string (mtx (K+3*(k:Int)+1+1))):=by
     rw [show K+3*(k:Int)+1+1=K+3*(k:Int)+2 by omega];exact (hb.cell (p:=⟨b,off+k*3+2,none⟩) hbw).trans c2
    have hbl:b<wr.heap.size:=Nat.lt_of_lt_of_le hbw hb.size;have h41:=fun u=>c23 (K+3*(k:Int)+1) u om_ om_;have h41':=fun u=>c23 (K+3*(k:Int)+1+1) u om_ om_;have em:ofL (109::dec (K+3*(k:Int)+1))=mtx (K+3*(k:Int)+1):=rfl;have em':ofL (109::dec (K+3*(k:Int)+1+1))=mtx (K+3*(k:Int)+1+1):=rfl;rw [em] at h41;rw [em'] at h41';clear em em' hcell c0 c1 c2;generalize mtx (K+3*(k:Int)+1)=mx at*;generalize mtx (K+3*(k:Int)+1+1)=my at*
    go_wp2_with fail
    refine wp_region_held_drew (S:=(fun u=>u.cell? ⟨b,off+k*3+1,none⟩=some (.string mx))) kr_ ?_ fun hHeld=>?_
    · ((try dsimp only);first | exact g1 | exact (hb1.cell (p:=⟨b,off+k*3+1,none⟩) hbl).trans g1)
    refine tq 0 hHeld ?_
    try simp only [qq]
    refine tq 1 hHeld ?_
    try simp only [qq]
    refine tq 2 hHeld ?_
    try simp only [qq]
    refine tq 3 hHeld ?_
    try simp only [qq]
    refine tq 4 hHeld ?_
    try simp only [qq]
    refine tq 5 hHeld ?_
    try simp only [qq]
    refine rq 6 fun K hK=>?_;go_simp;refine (h41 _).mono ?_;rintro e w1 ⟨rfl,hb0⟩;have hb1:=(Below.refl wr.heap.size wr).drew.trans hb0
    go_wp2_with fail
    clear hHeld;refine hK.out _ _ ?_ fun hHeld=>?_
    · ((try dsimp only);first | exact g1 | exact (hb1.cell (p:=⟨b,off+k*3+1,none⟩) hbl).trans g1)
    clear hK K
    try simp only [qq]
    refine tq 7 hHeld ?_
    try simp only [qq]
    refine wpAnyH_done kr_ ?_ _;have i2:=(hb1.cell (p:=⟨b,off+k*3+2,none⟩) hbl).trans g2;have hbl1:b<w1.heap.size:=Nat.lt_of_lt_of_le hbl hb1.size;clear g0 g1 g2 h41
    go_wp2_with fail
    refine wp_region_held_drew (S:=(fun u=>u.cell? ⟨b,off+k*3+2,none⟩=some (.string my))) kr_ ?_ fun hHeld=>?_
    · ((try dsimp only);first | exact i2 | exact (hb2.cell (p:=⟨b,off+k*3+2,none⟩) hbl1).trans i2)
    refine tq 0 hHeld ?_
    try simp only [qq]
    refine tq 1 hHeld ?_
    try simp only [qq]
    refine tq 2 hHeld ?_
    try simp only [qq]
    refine tq 3 hHeld ?_
    try simp only [qq]
    refine tq 4 hHeld ?_
    try simp only [qq]
    refine tq 5 hHeld ?_
    try simp only [qq]
    refine rq 6 fun K hK=>?_;go_simp;refine (h41' _).mono ?_;rintro e w2 ⟨rfl,hb20⟩;have hb2:=(Below.refl w1.heap.size w1).drew.trans hb20
    go_wp2_with fail
    clear hHeld;refine hK.out _ _ ?_ fun hHeld=>?_
    · ((try dsimp only);first | exact i2 | exact (hb2.cell (p:=⟨b,off+k*3+2,none⟩) hbl1).trans i2)
    clear hK K
    try simp only [qq]
    refine tq 7 hHeld ?_
    try simp only [qq]
    refine wpAnyH_done kr_ ?_ _;go_wp2;go_roundw
    case rel=>exact ⟨k+1,om_,by go_num,by go_num,(bT_ hb hb1).trans (hb2.mono (bT_ hb hb1).size)⟩
    case measure=>simp [intOf];omega
  · obtain rfl:k=n:=om_
    go_wp2;go_ret;exact ⟨rfl,hb⟩
end Go.Proofs.YtlckdgjfniglfaaGreatDoor
namespace Go.Proofs.YtlckdgjfniglfaaGreatDoor.T
open Proofs.Tryz
open Go.RowKit
theorem owns_but {b:Nat} {w w':World} {base:Nat} {e:TypeId} {size:Nat} {v:Value} {n:Nat} {xs:List Value} (h:w.ownsRow base e size v n xs) (hb:But b w w') (hne:v.ownBlock≠some b):w'.ownsRow base e size v n xs:=by
 refine ⟨h.1,?_⟩;rcases h.2 with h2 | ⟨g,cap,cur,hv,hg,hh,r⟩
 · exact .inl h2
 · refine .inr ⟨g,cap,cur,hv,hg,?_,r⟩
   rw [hb.block g (blk_lt hh) (fun e=>hne (by rw [hv,e];rfl))];exact hh
theorem row_form2 {w:World} {B:Nat} {e:TypeId} {v:Value} {n:Nat} {xs:List Value} (h:w.ownsRow B e 2 v n xs):∃ ao c,v=.slice ao n c:=by
 rcases h.2 with ⟨hv,h0⟩ | ⟨g,cap,cur,hv,_⟩
 · exact ⟨none,0,by rw [hv,h0]⟩
 · exact ⟨_,_,hv⟩
theorem row2n (w:World) (x y:Value) (t:TypeId):∀ j u,[x,y][j]?=some u->(w.alloc (.cells #[x,y] t)).cell? ((⟨w.heap.size,0,none⟩:Addr).add j)=some u:=by
 intro j u h
 match j,h with
 | 0,h=>simp at h;subst h;simp [Addr.add]
 | 1,h=>simp at h;subst h;simp [Addr.add]
theorem row2d (w:World) (x y:Value) (t:TypeId):∀ j u,[x,y][j]?=some u->(w.alloc (.cells #[x,y] t)).drew.cell? ((⟨w.heap.size,0,none⟩:Addr).add j)=some u:=fun j u h=>row2n w x y t j u h
theorem take_succ_getD {fs:List F2} {k:Nat} (h:k<fs.length):fs.take (k+1)=fs.take k++[fs.getD k f2z]:=by
 rw [List.take_succ_eq_append_getElem h];simp [List.getD,List.getElem?_eq_getElem h]
def without (fs:List F2) (nm:ByteArray):List F2:=fs.filter fun x=>!(x.nm.toList==nm.toList)
theorem without_skip {fs:List F2} {nm:ByteArray} {k:Nat} (h:k<fs.length) (hx:((fs.getD k f2z).nm.toList==nm.toList)=true):without (fs.take (k+1)) nm=without (fs.take k) nm:=by
 unfold without;rw [take_succ_getD h,List.filter_append];generalize fs.getD k f2z=x at*;simp [hx]
theorem without_keep {fs:List F2} {nm:ByteArray} {k:Nat} (h:k<fs.length) (hx:((fs.getD k f2z).nm.toList==nm.toList)=false):without (fs.take (k+1)) nm=without (fs.take k) nm++[fs.getD k f2z]:=by
 unfold without;rw [take_succ_getD h,List.filter_append];generalize fs.getD k f2z=x at*;simp [hx]
theorem without_len (fs:List F2) (nm:ByteArray):(without fs nm).length<=fs.length:=List.length_filter_le _ _
structure WoAt (w wr:World) (t:Value) (v:Value) (gs:List F2):Prop where
 bel:Below w.heap.size w wr
 ht:wr.heap[w.heap.size]?=some (.cells #[t] 26 (0,0))
 hr:wr.heap[w.heap.size+1]?=some (.cells #[.slice none 0 0] 26 (0,0))
 ho:wr.heap[w.heap.size+1+1]?=some (.cells #[v] 26 (0,0))
 own:OwnF wr (w.heap.size+3) v gs
theorem alloc_new {w:World} {g:Nat} (hg:g=w.heap.size) (o:Obj):(w.alloc o).heap[g]?=some o:=by
 subst hg;exact Array.getElem?_push_size
def strOf:Value->Nat | .string s=>s.size | _=>0
theorem alloc_old {w:World} {g:Nat} (hg:g<w.heap.size) (o:Obj):(w.alloc o).heap[g]?=w.heap[g]?:=Below.heap_alloc w o g hg
theorem WoAt.start (w:World) (t:Value):WoAt w (((w.alloc (.cells #[t] 26)).alloc (.cells #[.slice none 0 0] 26)).alloc (.cells #[.slice none 0 0] 26)) t (.slice none 0 0) []:=by
 refine ⟨((bA_.alloc sm_ _).alloc so_ _),?_,?_,?_,⟨rfl,.inl ⟨rfl,rfl⟩⟩⟩
 · rw [alloc_old so_,alloc_old sm_];exact alloc_new rfl _
 · rw [alloc_old sm_];exact alloc_new sm_ _
 · exact alloc_new sm_ _
theorem WoAt.sz {w wr:World} {t v:Value} {gs:List F2} (h:WoAt w wr t v gs):w.heap.size+3<=wr.heap.size:=blk_lt h.ho
theorem WoAt.cells {w wr:World} {t v:Value} {gs:List F2} (h:WoAt w wr t v gs):wr.cell? ⟨w.heap.size,0,none⟩=some t/\wr.cell? ⟨w.heap.size+1,0,none⟩=some (.slice none 0 0)/\wr.cell? ⟨w.heap.size+1+1,0,none⟩=some v/\wr.frozen? ⟨w.heap.size+1,0,none⟩=false/\wr.frozen? ⟨w.heap.size+1+1,0,none⟩=false:=
 ⟨by rw [Lib.cell_of_heap h.ht];rfl,by rw [Lib.cell_of_heap h.hr];rfl,by rw [Lib.cell_of_heap h.ho];rfl,Lib.frozen_of_heap h.hr 0,Lib.frozen_of_heap h.ho 0⟩
theorem WoAt.app {w wr w2:World} {t v v':Value} {gs:List F2} {x:F2} {o:Obj} (h:WoAt w wr t v gs) (ho:w2.ownsRow (w.heap.size+3) 40 2 v' (gs.length+1) (fileCells gs++[.string x.nm,.string x.tx])) (hg:(wr.alloc o).drew.grownBy w2 v.ownBlock):
 WoAt w (w2.setCell ⟨w.heap.size+1+1,0,none⟩ v') t v' (gs++[x])/\w2.cell? ⟨w.heap.size+1+1,0,none⟩=some v/\w2.frozen? ⟨w.heap.size+1+1,0,none⟩=false:=by
 have hz:=h.sz;have hd:(wr.alloc o).drew.heap.size=wr.heap.size+1:=by show (wr.alloc o).heap.size=_;simp
 have key:∀ k,k<w.heap.size+3->w2.heap[k]?=wr.heap[k]?:=fun k hk=>by
  rw [hg.block k (by rw [hd];omega) (fun e=>by have:=(h.own.lt k e.symm).1;omega)];show (wr.alloc o).heap[k]?=_;exact alloc_old om_ _
 have hbel:Below w.heap.size w w2:=((h.bel.alloc om_ _).drew).grown hg (by rw [hd];omega) (fun k hk=>by have:=(h.own.lt k hk).1;omega);have b2:w2.heap[w.heap.size+1+1]?=some (.cells #[v] 26 (0,0)):=(key _ om_).trans h.ho;have hz2:w.heap.size+3<=w2.heap.size:=blk_lt b2;refine ⟨⟨hbel.setCell so_ _,?_,?_,?_,?_⟩,by rw [Lib.cell_of_heap b2];rfl,Lib.frozen_of_heap b2 0⟩
 · rw [Below.heap_setCell _ _ _ _ so_];exact (key _ om_).trans h.ht
 · rw [Below.heap_setCell _ _ _ _ sm_];exact (key _ om_).trans h.hr
 · exact heap_setCell_same w2 (w.heap.size+1+1) 0 _ 26 v' b2
 · have hl:(gs++[x]).length=gs.length+1:=sm_
   show (w2.setCell ⟨w.heap.size+1+1,0,none⟩ v').ownsRow (w.heap.size+3) 40 2 v' (gs++[x]).length (fileCells (gs++[x]));rw [hl,fileCells_app];refine owns_but (b:=w.heap.size+1+1) ho ((But.refl _ _).setCell _ _) (fun e=>by have:=(ho.lt _ e).1;omega)
theorem c67 (a:Option Addr) (cap:Nat) (fs:List F2) (nm:ByteArray) (w:World) (hl:fs.length<=40) (hat:FilesAt w a fs):
 Calls prog 67 #[.agg #[.slice a fs.length cap],.string nm] w fun e w'=>(∃ v,e=.returned (.agg #[v])/\OwnF w' (w.heap.size+3) v (without fs nm))/\Below w.heap.size w w':=by
 obtain ⟨b,off,hc⟩:=files_some hat;have HC:Hid (fs=[]\/(a=some ⟨b,off,none⟩/\b<w.heap.size/\∀ i,i<fs.length->w.cell? ⟨b,off+i*2,none⟩=some (.string (fs.getD i f2z).nm)/\w.cell? ⟨b,off+i*2+1,none⟩=some (.string (fs.getD i f2z).tx))):=hc;have HS0:=WoAt.start w (.slice a fs.length cap);obtain ⟨i0,hi,hz0,hz1,hz2⟩:=info_parts info40;clear hc hat;go_enter func67,ntmps67
 go_wp2_with fail
 go_loopw [6] (fun i wr=>∃ (k:Nat) (v:Value),k<=fs.length/\i=.int .i64 k/\Hid (WoAt w wr (.slice a fs.length cap) v (without (fs.take k) nm))) (fun i _=>fs.length - (intOf i).toNat)
 case atStart=>exact ⟨0,_,Nat.zero_le _,rfl,HS0⟩
 case round=>
  obtain ⟨k,v,hk,rfl,hwo⟩:=hrel;obtain ⟨ct,cr,co,fr,fo⟩:=hwo.out.cells;have hzr:=hwo.out.sz;by_cases hlt:k<fs.length
  · rcases HC.out with hss | ⟨ha,hbw,hcell⟩
    · rw [hss] at hlt;exact absurd hlt (Nat.not_lt_zero _)
    subst ha;have g0:=(hwo.out.bel.cell (p:=⟨b,off+k*2,none⟩) hbw).trans (hcell k hlt).1;have g1:=(hwo.out.bel.cell (p:=⟨b,off+k*2+1,none⟩) hbw).trans (hcell k hlt).2;have HK:Hid (((fs.getD k f2z).nm.toList==nm.toList)=true->without (fs.take (k+1)) nm=without (fs.take k) nm):=without_skip hlt;have HN:Hid (((fs.getD k f2z).nm.toList==nm.toList)=false->without (fs.take (k+1)) nm=without (fs.take k) nm++[fs.getD k f2z]):=without_keep hlt;have hgl:(without (fs.take k) nm).length<=k:=Nat.le_trans (without_len _ _) (List.length_take_le _ _);generalize fs.getD k f2z=x at*;generalize without (fs.take k) nm=gs at*;clear hcell;cases hq:(x.nm.toList==nm.toList)
    · have HN':=HN.out hq
      have HNE:Hid (without (fs.take (k+1)) nm=gs++[x]):=HN';have hown:=hwo.out.own;obtain ⟨av,cv,hv,_⟩:=hown.form;subst hv;clear HK HN HN';have co':=past (p:=⟨w.heap.size+1+1,0,none⟩) (by show w.heap.size+1+1<wr.heap.size;omega) co;have hownR:wr.ownsRow (w.heap.size+3) 40 2 (.slice av gs.length cv) gs.length (fileCells gs):=hwo.out.own
      go_wp2_with fail
      go_region_law (refine step_app rfl (.tmp 24) (.tmp 30) 24 rfl (w.heap.size+3) 40 i0 (.agg #[.string ⟨#[]⟩,.string ⟨#[]⟩]) 2 32 underlying24 hi hz0 hz1 hz2 rfl dc_ _ _ _ rfl ((hownR.alloc _).drew) ⟨wr.heap.size,0,none⟩ 1 1 [_,_] rfl rfl (row2d _ _ _ _) (by intro u hu;simp at hu;rcases hu with rfl | rfl <;> rfl) (by unfold maxLen;omega) om_ so_ ?_;intro v' w2 hown2 hgrow;have hAP:=hwo.out.app (x:=x) hown2 hgrow;have HAP:Hid (WoAt w (w2.setCell ⟨w.heap.size+1+1,0,none⟩ v') (.slice (some ⟨b,off,none⟩) fs.length cap) v' (gs++[x])):=hAP.1;have d1:=hAP.2.1;have d2:=hAP.2.2;obtain ⟨ao,cpo,hvf⟩:=row_form2 hown2;subst hvf;clear hAP hown2 hgrow)
      all_goals
       go_wp2;go_roundw
       case rel=>exact ⟨k+1,_,om_,by go_num,by rw [HNE.out];exact HAP.out⟩
       case measure=>simp [intOf];omega
    · have HKE:Hid (without (fs.take (k+1)) nm=gs):=HK.out hq
      clear HK HN;go_wp2;go_roundw
      case rel=>exact ⟨k+1,v,om_,by go_num,by rw [HKE.out];exact hwo.out⟩
      case measure=>simp [intOf];omega
  · have HE:Hid (without (fs.take k) nm=without fs nm):=by rw [List.take_of_length_le om_];rfl
    have hwo2:Hid (WoAt w wr (.slice a fs.length cap) v (without fs nm)):=by rw [<- HE.out];exact hwo.out
    obtain ⟨av,cv,hv,_⟩:=hwo2.out.own.form;subst hv;obtain ⟨ct,cr,co,fr,fo⟩:=hwo2.out.cells;have hB:=hwo2.out.bel;have HO:Hid (OwnF wr (w.heap.size+3) (.slice av (without fs nm).length cv) (without fs nm)):=hwo2.out.own;clear hwo hwo2 HE;go_wp2;refine bodyPost_ret (v:=.agg #[.slice av (without fs nm).length cv]) (by simp [results,Tryz.results67,go_sem,cr]) rfl ⟨⟨_,rfl,?_⟩,?_⟩
    · exact owns_but (b:=w.heap.size+1) HO.out ((But.refl _ _).setCell _ _) (fun e=>by have:=(HO.out.lt _ e).1;omega)
    · exact hB.setCell sm_ _
end Go.Proofs.YtlckdgjfniglfaaGreatDoor.T
