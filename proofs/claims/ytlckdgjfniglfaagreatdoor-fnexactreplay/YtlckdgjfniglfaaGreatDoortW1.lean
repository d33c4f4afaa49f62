import Derived.Test.YtlckdgjfniglfaaGreatDooreY1
import Derived.Test.YtlckdgjfniglfaaGreatDoortV2
set_option linter.unusedVariables false
set_option maxHeartbeats 8000000
set_option maxRecDepth 100000
namespace Go.Proofs.YtlckdgjfniglfaaGreatDoor
open Proofs.Tryz
open Go.RowKit
theorem c30k (K:Nat) (hK1:1<=K) (hK2:K<=10) (s:ByteArray) (w:World) (hs:s.size<=1048700):
 Calls prog 30 #[.string s,.int .i64 K] w fun e w'=>(∃ g cp,e=.returned (.tuple #[.slice (some ⟨g,0,none⟩) K cp,.string (ofL (restN s.data.toList K))])/\w.heap.size<=g/\LinesAt w' g (wordsN s.data.toList K))/\Below w.heap.size w w':=by
 obtain ⟨i0,hi,hz0,hz1,hz2⟩:=info_parts info9;have hlen:s.data.toList.length=s.size:=sm_;go_enter func30,ntmps30
 go_wp2_with fail
 go_loopw [0,6,7] (fun sv v i wr=>∃ (m:Nat) (t:ByteArray) (ss:List (List UInt8)),m<=K/\i=.int .i64 m/\sv=.string t/\wr.ownsRow w.heap.size 9 1 v m (strL ss)/\Hid (t=ofL (restN s.data.toList m)/\ss=wordsN s.data.toList m)/\Below w.heap.size w wr/\w.heap.size+1<=wr.heap.size) (fun _ _ i _=>K - (intOf i).toNat)
 case atStart=>exact ⟨0,s,[],Nat.zero_le _,rfl,rfl,World.ownsRow_lit _ #[] 0 lr_ (Nat.zero_le _) rfl,⟨rfl,rfl⟩,bA_,sm_⟩
 case round=>
  obtain ⟨m,t,ss,hm,rfl,rfl,hown,hrel,hb,hz⟩:=hrel;by_cases hlt:m<K
  · obtain ⟨hT,rfl⟩:=hrel.out
    have hts:t.size<=1048700:=by rw [hT,ofL_size];have:=restN_len s.data.toList m;omega
    have hTl:t.data.toList=restN s.data.toList m:=by rw [hT];simp [ofL]
    have HTL:Hid (t.data.toList=restN s.data.toList m):=hTl;have htlen:t.data.toList.length=t.size:=sm_;clear hT hTl;clear hrel
    go_wp2_with fail
    go_loop [8] (fun n=>∃ k:Nat,k<=t.size/\n=.int .i64 k/\Hid ((t.data.toList.take k).all (· !=32)=true)) (fun n=>t.size - (intOf n).toNat)
    case atStart=>exact ⟨0,Nat.zero_le _,rfl,rfl⟩
    case round=>
     obtain ⟨k,hk,rfl,ha⟩:=hrel;by_cases hkt:k<t.size
     · have hkt':(k:Int)<(t.size:Int):=om_
       by_cases h32:t[k]=32
       · have e1:((t[k].toNat:Int) !=32)=false:=by rw [h32];rfl
         obtain ⟨hw1,hw2⟩:=word_at (l:=t.data.toList) ha.out om_ (.inr (by simp [hkt];exact h32));have HW:Hid (t.extract 0 k=ofL (wordOf t.data.toList)):=ext_ofL (by rw [ext_listF,hw1];rfl);have HR:Hid (t.extract (k+1) t.size=ofL (restOf t.data.toList)):=ext_ofL (by rw [ext_listF,hw2,List.take_of_length_le om_]);clear h32 hw1 hw2
         go_wp2_with (at_builtin;refine wpList_append_own _ rfl _ _ 22 rfl w.heap.size 9 i0 (.string ⟨#[]⟩) 1 16 underlying22 hi hz0 hz1 hz2 rfl dc_ _ _ _ rfl (hown.alloc _) ⟨wr.heap.size,0,none⟩ 1 1 [_] rfl rfl (cell_one_new _ _ _) (by intro u hu;simp at hu;subst hu;rfl) (by unfold maxLen;omega) om_ so_ ?_;intro v' w2 hown' hgrow _)
         go_roundw
         case rel=>
          have hB2:Below w.heap.size w w2:=(hb.alloc hb.size _).grown hgrow so_ (fun j hj=>(hown.lt j hj).1);refine ⟨m+1,_,wordsN s.data.toList (m+1),om_,by go_num,rfl,?_,⟨by rw [HR.out,HTL.out];rfl,rfl⟩,hB2,by have:=hgrow.size;simp at this;omega⟩;rw [wordsN_succ,strL_snoc,<- HTL.out,<- HW.out];exact hown'
         case measure=>simp [intOf];omega
       · have e1:((t[k].toNat:Int) !=32)=true:=by
          simp only [bne_iff_ne];intro e;exact h32 (UInt8.toNat_inj.1 (by
           have:t[k].toNat=32:=om_;rw [this];rfl))
         have HA:Hid ((t.data.toList.take (k+1)).all (· !=32)=true):=by
          rw [take_snoc t k hkt,List.all_append,ha.out];simp [Hid,h32]
         clear h32;go_wp2
         go_round
         case rel=>exact ⟨k+1,om_,by go_num,HA⟩
         case measure=>simp [intOf];omega
     · obtain ⟨hw1,hw2⟩:=word_at (l:=t.data.toList) ha.out om_ (.inl om_)
       have HW:Hid (t.extract 0 k=ofL (wordOf t.data.toList)):=ext_ofL (by rw [ext_listF,hw1];rfl);have HR:Hid (t.extract k t.size=ofL (restOf t.data.toList)):=ext_ofL (by rw [ext_listF,hw2,List.take_of_length_le om_,List.drop_of_length_le om_,List.drop_of_length_le om_]);clear hw1 hw2
       go_wp2_with (at_builtin;refine wpList_append_own _ rfl _ _ 22 rfl w.heap.size 9 i0 (.string ⟨#[]⟩) 1 16 underlying22 hi hz0 hz1 hz2 rfl dc_ _ _ _ rfl (hown.alloc _) ⟨wr.heap.size,0,none⟩ 1 1 [_] rfl rfl (cell_one_new _ _ _) (by intro u hu;simp at hu;subst hu;rfl) (by unfold maxLen;omega) om_ so_ ?_;intro v' w2 hown' hgrow _)
       go_roundw
       case rel=>
        have hB2:Below w.heap.size w w2:=(hb.alloc hb.size _).grown hgrow so_ (fun j hj=>(hown.lt j hj).1);refine ⟨m+1,_,wordsN s.data.toList (m+1),om_,by go_num,rfl,?_,⟨by rw [HR.out,HTL.out];rfl,rfl⟩,hB2,by have:=hgrow.size;simp at this;omega⟩;rw [wordsN_succ,strL_snoc,<- HTL.out,<- HW.out];exact hown'
       case measure=>simp [intOf];omega
  · obtain rfl:m=K:=om_
    obtain ⟨rfl,rfl⟩:=hrel.out;clear hrel;obtain ⟨g,cp,hvv⟩:=own_formF hown om_;subst hvv;go_wp2;go_ret2;exact ⟨⟨g,cp,rfl,(hown.lt g rfl).1,lines_of_owns hown (by simp [wordsN])⟩,hb⟩
def lkC (is:List L4):List Value:=is.flatMap fun x=>[.bool x.has,.string x.nm,.int .i64 x.cd,.string x.tx]
theorem lkC_len (is:List L4):(lkC is).length=is.length*4:=by
 induction is with
 | nil=>rfl
 | cons x is ih=>
  show ([_,_,_,_]++lkC is).length=_;rw [List.length_append,ih];simp;omega
theorem lkC_get (is:List L4):∀ i,i<is.length->(lkC is)[i*4]?=some (.bool (is.getD i l4z).has)/\(lkC is)[i*4+1]?=some (.string (is.getD i l4z).nm)/\(lkC is)[i*4+2]?=some (.int .i64 (is.getD i l4z).cd)/\(lkC is)[i*4+3]?=some (.string (is.getD i l4z).tx):=by
 induction is with
 | nil=>intro i h;exact absurd h (Nat.not_lt_zero _)
 | cons x is ih=>
  intro i h
  cases i with
  | zero=>exact ⟨rfl,rfl,rfl,rfl⟩
  | succ i=>
   have hi:i<is.length:=by simpa using h
   have k:=ih i hi;have e:∀ j,(lkC (x::is))[(i+1)*4+j]?=(lkC is)[i*4+j]?:=fun j=>by
    show ([_,_,_,_]++lkC is)[(i+1)*4+j]?=_;rw [List.getElem?_append_right so_]
    congr 1
    simp;omega
   have e0:=e 0;simp only [Nat.add_zero] at e0;rw [e0,e 1,e 2,e 3];simpa using k
structure LkOwn (w:World) (B:Nat) (ao:Option Addr) (is:List L4):Prop where
 at':LksAt w ao is
 own:is=[]\/∃ g,ao=some ⟨g,0,none⟩/\B<=g/\Open4 w g is.length
theorem own_lks {w:World} {B:Nat} {v:Value} {n:Nat} {is:List L4} (h:w.ownsRow B 74 4 v n (lkC is)) (hn:n=is.length):∃ ao c,v=.slice ao n c/\LkOwn w B ao is:=by
 subst hn;have h':=h;obtain ⟨h1,h2⟩:=h;rcases h2 with ⟨rfl,h0⟩ | ⟨g,cp,cur,rfl,hg,hh,_⟩
 · have e:is=[]:=List.length_eq_zero_iff.1 h0
   subst e;exact ⟨none,0,rfl,.inl rfl,.inl rfl⟩
 · have hlt:g<w.heap.size:=blk_lt hh
   refine ⟨some ⟨g,0,none⟩,cp,rfl,.inr ⟨g,0,rfl,hlt,fun i hi=>?_⟩,.inr ⟨g,rfl,hg,hlt,fun j hj=>?_,fun j=>h'.frozenAt j⟩⟩
   · have k:=lkC_get is i hi
     simp only [Nat.zero_add];rw [h'.cellAt _ om_,h'.cellAt _ om_,h'.cellAt _ om_,h'.cellAt _ om_];exact k
   · rw [h'.cellAt j hj]
     have:j<(lkC is).length:=by rw [lkC_len];exact hj
     exact ⟨_,List.getElem?_eq_getElem this⟩
theorem LkOwn.mono {w:World} {B B':Nat} {ao:Option Addr} {is:List L4} (h:LkOwn w B ao is) (hB:B'<=B):LkOwn w B' ao is:=
 ⟨h.at',h.own.imp id fun ⟨g,h1,h2,h3⟩=>⟨g,h1,Nat.le_trans hB h2,h3⟩⟩
end Go.Proofs.YtlckdgjfniglfaaGreatDoor
namespace Go.Proofs.YtlckdgjfniglfaaGreatDoor.T
open Proofs.Tryz
open Go.RowKit
theorem c21 (a a':Option Addr) (cap cap':Nat) (is:List F2) (w:World) (hl:is.length<=1048576) (hat:FilesAt w a is) (hat':FilesAt w a' is):
 Calls prog 21 #[.agg #[.slice a is.length cap],.agg #[.slice a' is.length cap']] w fun e w'=>e=.returned (.bool true)/\Below w.heap.size w w':=by
 have HA:Hid (FilesAt w a is):=hat;have HA':Hid (FilesAt w a' is):=hat';clear hat hat';have hB0:Below w.heap.size w ((w.alloc (.cells #[.slice a is.length cap] 26)).alloc (.cells #[.slice a' is.length cap'] 26)):=bA_.alloc sm_ _;go_enter func21,ntmps21
 go_wp2_with fail
 refine (c50 a a' cap cap' is _ hl (files_below HA.out hB0) (files_below HA'.out hB0)).mono ?_;rintro e w1 ⟨rfl,hb1⟩;go_wp2;go_ret;exact ⟨rfl,bT_ hB0 hb1⟩
theorem cat_ofLB (a b:List UInt8):ofL a++ofL b=ofL (a++b):=by apply ByteArray.ext;simp [ofL]
theorem one_ofLB (c:UInt8):(⟨#[c]⟩:ByteArray)=ofL [c]:=rfl
theorem c23 (K:Int) (w:World) (h1:1<=K) (h2:K<=3000000):
 Calls prog 23 #[.int .i64 K] w fun e w'=>e=.returned (.string (ofL (109::dec K)))/\Below w.heap.size w w':=by
 have hcv:=conv1;have hcd:=convD;have hz:∀ y,(strOfNums [y]).size=1:=fun y=>strOfNums_size [y];have hdl:=dec_len K om_ om_;go_enter func23,ntmps23
 go_wp2_with fail
 go_loopw [0,3] (fun k o wr=>∃ (m:Int) (l:List UInt8),0<=m/\m<=3000000/\k=.int .i64 m/\o=.string (ofL l)/\Hid (dec K=if m=0 then l else dec m++l)/\Below w.heap.size w wr) (fun k _ _=>(intOf k).toNat)
 case atStart=>exact ⟨K,[],om_,h2,rfl,rfl,by rw [if_neg om_];simp [Hid],Below.refl _ _⟩
 case round=>
  obtain ⟨m,l,hm0,hm1,rfl,rfl,hl,hb⟩:=hrel;by_cases hlt:0<m
  · have hsz:(ofL l).size<=100000001:=by
     have:=hl.out;rw [if_neg om_] at this;have:=congrArg List.length this;rw [List.length_append] at this;rw [ofL_size];omega
    have HN:Hid (dec K=if m / 10=0 then UInt8.ofNat (48+m % 10).toNat::l else dec (m / 10)++(UInt8.ofNat (48+m % 10).toNat::l)):=by
     have h:=hl.out;rw [if_neg om_] at h;by_cases h10:m<10
     · rw [dec_lt m h10] at h
       rw [if_pos om_,show m % 10=m by omega];exact h
     · rw [dec_ge m om_] at h
       rw [if_neg om_];exact h.trans sm_
    go_wp2;go_roundw
    case rel=>exact ⟨m / 10,_,om_,om_,rfl,by rw [cons_ofL],HN,hb.alloc hb.size _⟩
    case measure=>simp [intOf];omega
  · obtain rfl:m=0:=om_
    have HN:Hid (dec K=l):=by have h:=hl.out;rwa [if_pos rfl] at h
    have hsz:(ofL l).size<=100000001:=by rw [ofL_size,<- HN.out];exact hdl
    go_wp2;go_ret;exact ⟨ret_str (by rw [HN.out];simp only [one_ofLB,cat_ofLB];rfl),hb⟩
def mkF (i:Nat):F2:=⟨ofL (109::dec (1+2*(i:Int))),ofL (109::dec (1+2*(i:Int)+1))⟩
def MarksAt (w:World) (b k:Nat):Prop:=∀ j,j<k->w.cell? ⟨b,j*2,none⟩=some (.string (mkF j).nm)/\w.cell? ⟨b,j*2+1,none⟩=some (.string (mkF j).tx)
def Open2 (w:World) (b n:Nat):Prop:=b<w.heap.size/\(∀ j,j<n*2->∃ v,w.cell? ⟨b,j,none⟩=some v)/\∀ j,w.frozen? ⟨b,j,none⟩=false
theorem Open2.below {w w':World} {b n:Nat} (h:Open2 w b n) (hb:Below w.heap.size w w'):Open2 w' b n:=
 ⟨Nat.lt_of_lt_of_le h.1 hb.size,fun j hj=>by rw [hb.cell (by exact h.1)];exact h.2.1 j hj,fun j=>by rw [hb.frozen (by exact h.1)];exact h.2.2 j⟩
theorem Open2.set {w:World} {b n j:Nat} {v:Value} (h:Open2 w b n) (hj:j<n*2):Open2 (w.setCell ⟨b,j,none⟩ v) b n:=by
 refine ⟨by simpa using h.1,fun i hi=>?_,fun i=>by have:=h.2.2 i;simpa using this⟩;by_cases e:i=j
 · subst e
   obtain ⟨x,hx⟩:=h.2.1 i hi;exact ⟨v,World.cell?_setCell_same _ _ _ hx⟩
 · rw [World.cell?_setCell_other _ _ _ _ (adr_ne (Ne.symm e))]
   exact h.2.1 i hi
theorem marks_below {w w':World} {b k:Nat} (h:MarksAt w b k) (hlt:b<w.heap.size) (hb:Below w.heap.size w w'):MarksAt w' b k:=by
 intro j hj;rw [hb.cell (by exact hlt),hb.cell (by exact hlt)];exact h j hj
theorem marks_set {w:World} {b k j:Nat} {v:Value} (h:MarksAt w b k) (hj:k*2<=j):MarksAt (w.setCell ⟨b,j,none⟩ v) b k:=by
 intro i hi;rw [World.cell?_setCell_other _ _ _ _ (adr_ne om_),World.cell?_setCell_other _ _ _ _ (adr_ne om_)];exact h i hi
theorem marks_snoc {w:World} {b k:Nat} (h:MarksAt w b k) (h0:w.cell? ⟨b,k*2,none⟩=some (.string (mkF k).nm)) (h1:w.cell? ⟨b,k*2+1,none⟩=some (.string (mkF k).tx)):MarksAt w b (k+1):=by
 intro i hi;by_cases e:i=k
 · subst e;exact ⟨h0,h1⟩
 · exact h i om_
theorem c52 (a:Option Addr) (b n cap:Nat) (w:World) (ha:n=0\/a=some ⟨b,0,none⟩) (hn:n<=1048576) (ho:n=0\/Open2 w b n):
 Calls prog 52 #[.slice a n cap,.int .i64 1] w fun e w'=>e=.returned (.int .i64 (1+2*(n:Int)))/\But b w w'/\MarksAt w' b n:=by
 have HO:Hid (n=0\/Open2 w b n):=ho;clear ho;go_enter func52,ntmps52
 go_wp2_with fail
 go_loopw [1,5] (fun q i wr=>∃ (k:Nat),k<=n/\i=.int .i64 k/\q=.int .i64 (1+2*(k:Int))/\But b w wr/\Hid (n=0\/Open2 wr b n)/\Hid (MarksAt wr b k)) (fun _ i _=>n - (intOf i).toNat)
 case atStart=>exact ⟨0,Nat.zero_le _,rfl,sm_,But.refl _ _,HO,fun j h=>absurd h (Nat.not_lt_zero _)⟩
 case round=>
  obtain ⟨k,hk,rfl,rfl,hb,hop',hmk⟩:=hrel;by_cases hlt:k<n
  · rcases ha with ha | rfl
    · omega
    have hop:Hid (Open2 wr b n):=by
     rcases hop'.out with h | h
     · omega
     · exact h
    clear hop'
    go_wp2_with fail
    refine (c23 _ _ om_ om_).mono ?_;rintro e w1 ⟨rfl,hb1⟩;have HO1:Hid (Open2 w1 b n):=hop.out.below hb1;have HM1:Hid (MarksAt w1 b k):=marks_below hmk.out hop.out.1 hb1;have hB1:But b w w1:=hb.trans (But.of_below hb1);obtain ⟨v0,g0⟩:=HO1.out.2.1 (k*2) om_;have f0:=HO1.out.2.2 (k*2);clear hb1 hb hop hmk
    go_wp2_with fail
    refine (c23 _ _ om_ om_).mono ?_;rintro e w2 ⟨rfl,hb2⟩;have HO2:Hid (Open2 w2 b n):=(HO1.out.set om_).below hb2;have HM2:Hid (MarksAt w2 b k):=marks_below (marks_set HM1.out lr_) (HO1.out.set (v:=.string (mkF k).nm) (by omega:k*2<n*2)).1 hb2;have hB2:But b w w2:=(hB1.setCell _ _).trans (But.of_below hb2);have x0:w2.cell? ⟨b,k*2,none⟩=some (.string (mkF k).nm):=(hb2.cell (p:=⟨b,k*2,none⟩) (by simpa using HO1.out.1)).trans (World.cell?_setCell_same _ _ _ g0);obtain ⟨v1,g1⟩:=HO2.out.2.1 (k*2+1) om_;have f1:=HO2.out.2.2 (k*2+1);clear hb2 hB1 HO1 HM1 g0 f0;go_wp2;go_roundw
    case rel=>
     refine ⟨k+1,om_,by go_num,by go_num,hB2.setCell _ _,.inr (HO2.out.set om_),marks_snoc (marks_set HM2.out om_) ?_ ?_⟩
     · rw [World.cell?_setCell_other _ _ _ _ (adr_ne om_)];exact x0
     · exact World.cell?_setCell_same _ _ _ g1
    case measure=>simp [intOf];omega
  · obtain rfl:k=n:=om_
    go_wp2;go_ret;exact ⟨rfl,hb,hmk.out⟩
theorem c54 (a:Option Addr) (b n cap:Nat) (w:World) (ha:n=0\/a=some ⟨b,0,none⟩) (hn:n<=1048576) (hlt:n=0\/b<w.heap.size) (hm:MarksAt w b n):
 Calls prog 54 #[.slice a n cap,.int .i64 1] w fun e w'=>e=.returned (.int .i64 (1+2*(n:Int)))/\Below w.heap.size w w':=by
 have HM:Hid (MarksAt w b n):=hm;clear hm;go_enter func54,ntmps54
 go_wp2_with fail
 go_loopw [1,5] (fun q i wr=>∃ (k:Nat),k<=n/\i=.int .i64 k/\q=.int .i64 (1+2*(k:Int))/\Below w.heap.size w wr) (fun _ i _=>n - (intOf i).toNat)
 case atStart=>exact ⟨0,Nat.zero_le _,rfl,sm_,Below.refl _ _⟩
 case round=>
  obtain ⟨k,hk,rfl,rfl,hb⟩:=hrel;by_cases hkn:k<n
  · rcases ha with ha | rfl
    · omega
    rcases hlt with hlt | hlt
    · omega
    obtain ⟨m0,m1⟩:=HM.out k hkn;have g0:wr.cell? ⟨b,k*2,none⟩=some (.string (ofL (109::dec (1+2*(k:Int))))):=(hb.cell (p:=⟨b,k*2,none⟩) hlt).trans m0;have g1:wr.cell? ⟨b,k*2+1,none⟩=some (.string (ofL (109::dec (1+2*(k:Int)+1)))):=(hb.cell (p:=⟨b,k*2+1,none⟩) hlt).trans m1;have hltr:b<wr.heap.size:=Nat.lt_of_lt_of_le hlt hb.size;clear m0 m1
    go_wp2_with fail
    go_region_with (go_at_call 23;refine (c23 _ _ om_ om_).mono ?_;rintro e w1 ⟨rfl,hb1⟩;have g0':w1.cell? ⟨b,k*2,none⟩=some (.string (ofL (109::dec (1+2*(k:Int))))):=(hb1.cell (p:=⟨b,k*2,none⟩) hltr).trans g0;have g1':w1.cell? ⟨b,k*2+1,none⟩=some (.string (ofL (109::dec (1+2*(k:Int)+1)))):=(hb1.cell (p:=⟨b,k*2+1,none⟩) hltr).trans g1;have hltr':b<w1.heap.size:=Nat.lt_of_lt_of_le hltr hb1.size)
    all_goals
     go_wp2_with fail
     go_region_with (go_at_call 23;refine (c23 _ _ om_ om_).mono ?_;rintro e w2 ⟨rfl,hb2⟩;have g1'':w2.cell? ⟨b,k*2+1,none⟩=some (.string (ofL (109::dec (1+2*(k:Int)+1)))):=(hb2.cell (p:=⟨b,k*2+1,none⟩) hltr').trans g1')
     all_goals go_wp2
     all_goals go_roundw
     all_goals first
      | exact ⟨k+1,om_,by go_num,by go_num,((hb.drew).trans (hb1.mono hb.size)).trans (((Below.refl _ _).drew.trans hb2).mono (Nat.le_trans hb.size hb1.size))⟩
      | (simp [intOf];omega)
  · obtain rfl:k=n:=om_
    go_wp2;go_ret;exact ⟨rfl,hb⟩
theorem c24 (a:Option Addr) (b n cap:Nat) (w:World) (ha:n=0\/a=some ⟨b,0,none⟩) (hn:n<=1048576) (ho:n=0\/Open2 w b n):
 Calls prog 24 #[.agg #[.slice a n cap],.int .i64 1] w fun e w'=>e=.returned (.int .i64 (1+2*(n:Int)))/\But b w w'/\MarksAt w' b n:=by
 have hB0:Below w.heap.size w (w.alloc (.cells #[.slice a n cap] 26)):=bA_;have HO:Hid (n=0\/Open2 (w.alloc (.cells #[.slice a n cap] 26)) b n):=ho.imp id (fun h=>h.below hB0);clear ho;go_enter func24,ntmps24
 go_wp2_with fail
 refine (c52 a b n cap _ ha hn HO.out).mono ?_;rintro e w1 ⟨rfl,h1,h3⟩;have H1:Hid (But b w w1):=(But.of_below hB0).trans h1;have H3:Hid (MarksAt w1 b n):=h3;clear h1 h3;go_wp2;go_ret;exact ⟨rfl,H1.out,H3.out⟩
theorem c26 (a:Option Addr) (b n cap:Nat) (w:World) (ha:n=0\/a=some ⟨b,0,none⟩) (hn:n<=1048576) (hlt:n=0\/b<w.heap.size) (hm:MarksAt w b n):
 Calls prog 26 #[.agg #[.slice a n cap],.int .i64 1] w fun e w'=>e=.returned (.int .i64 (1+2*(n:Int)))/\Below w.heap.size w w':=by
 have hB0:Below w.heap.size w (w.alloc (.cells #[.slice a n cap] 26)):=bA_;have HM:Hid (MarksAt (w.alloc (.cells #[.slice a n cap] 26)) b n):=by
  rcases hlt with h | h
  · intro j hj;omega
  · exact marks_below hm h hB0
 have HL:Hid (n=0\/b<(w.alloc (.cells #[.slice a n cap] 26)).heap.size):=hlt.imp id (fun h=>so_);clear hm hlt;go_enter func26,ntmps26
 go_wp2_with fail
 refine (c54 a b n cap _ ha hn HL.out HM.out).mono ?_;rintro e w1 ⟨rfl,h1⟩;go_wp2;go_ret;exact ⟨rfl,bT_ hB0 h1⟩
end Go.Proofs.YtlckdgjfniglfaaGreatDoor.T
