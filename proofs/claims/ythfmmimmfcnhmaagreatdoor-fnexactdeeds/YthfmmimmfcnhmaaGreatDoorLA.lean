import Derived.Test.YthfmmimmfcnhmaaGreatDoorZ17
import Derived.Test.YthfmmimmfcnhmaaGreatDoorZ37
set_option maxHeartbeats 8000000
set_option maxRecDepth 100000
namespace Go.Proofs.YthfmmimmfcnhmaaGreatDoor.M
open Proofs.Tryz
open Go.RowKit
variable {w w':World} {b c k n:Nat} {v:Value} {K:Int}
theorem cons_ofL (x:Int) (l:List UInt8):strOfNums [x]++ofL l=ofL (UInt8.ofNat x.toNat::l):=by
 apply ByteArray.ext
 simp [ofL,strOfNums]
theorem c27 (K:Int) (w:World) (h1:1<=K) (h2:K<=100000000000000):
 Calls prog 27 #[.int .i64 K] w fun e w'=>e=.returned (.string (ofL (109::dec K)))/\Below w.heap.size w w':=by
 have hcv:=conv1
 have hcd:=convD
 have hz:∀ y,(strOfNums [y]).size=1:=fun y=>strOfNums_size [y]
 have hdl:(dec K).length<=100000000000001:=by
  have:=decF_len (K.toNat+1) K
  unfold dec;omega
 go_enter func27,ntmps27
 go_wp2_with fail
 go_loopw [0,3] (fun k o wr=>∃ (m:Int) (l:List UInt8),0<=m/\m<=100000000000000/\k=.int .i64 m/\o=.string (ofL l)/\Hid (dec K=if m=0 then l else dec m++l)/\Below w.heap.size w wr) (fun k _ _=>(intOf k).toNat)
 case atStart=>exact ⟨K,[],by omega,h2,rfl,rfl,by rw [if_neg (by omega)];simp [Hid],Below.refl _ _⟩
 obtain ⟨m,l,hm0,hm1,rfl,rfl,hl,hb⟩:=hrel
 by_cases hlt:0<m
 rotate_left
 · obtain rfl:m=0:=by omega
   have HN:Hid (dec K=l):=by have h:=hl.out;rwa [if_pos rfl] at h
   have hsz:(ofL l).size<=100000000000001:=by rw [ofL_size,<- HN.out];exact hdl
   go_wp2
   go_ret
   exact ⟨ret_str (by rw [HN.out];simp only [one_ofL,cat_ofL];rfl),hb⟩
 have hsz:(ofL l).size<=100000000000001:=by
  have:=hl.out
  rw [if_neg (by omega)] at this
  have:=congrArg List.length this
  rw [List.length_append] at this
  rw [ofL_size];omega
 have HN:Hid (dec K=if m / 10=0 then UInt8.ofNat (48+m % 10).toNat::l else dec (m / 10)++(UInt8.ofNat (48+m % 10).toNat::l)):=by
  have h:=hl.out
  rw [if_neg (by omega)] at h
  by_cases h10:m<10
  · rw [dec_lt m h10] at h
    rw [if_pos (by omega),show m % 10=m by omega]
    exact h
  rw [dec_ge m (by omega)] at h
  rw [if_neg (by omega)]
  exact h.trans (by simp)
 go_wp2
 go_roundw
 case rel=>exact ⟨m / 10,_,by omega,by omega,rfl,by rw [cons_ofL],HN,hb.alloc hb.size _⟩
 case measure=>simp [intOf];omega
def mtx (K:Int):ByteArray:=ofL (109::dec K)
def mkL (K:Int) (i:Nat):L4:=⟨((K+4*(i:Int)) % 3==0),ofL (109::dec (K+4*(i:Int)+1)),K+4*(i:Int)+2,ofL (109::dec (K+4*(i:Int)+3))⟩
def MarksAt (K:Int) (w:World) (b k:Nat):Prop:=∀ j,j<k->w.cell? ⟨b,j*4,none⟩=some (.bool (mkL K j).has)/\w.cell? ⟨b,j*4+1,none⟩=some (.string (mkL K j).nm)/\w.cell? ⟨b,j*4+2,none⟩=some (.int .i64 (mkL K j).cd)/\w.cell? ⟨b,j*4+3,none⟩=some (.string (mkL K j).tx)
def Open4 (w:World) (b n:Nat):Prop:=b<w.heap.size/\(∀ j,j<n*4->∃ v,w.cell? ⟨b,j,none⟩=some v)/\∀ j,w.frozen? ⟨b,j,none⟩=false
theorem Open4.below (h:Open4 w b n) (hb:Below w.heap.size w w'):Open4 w' b n:=
 ⟨Nat.lt_of_lt_of_le h.1 hb.size,fun j hj=>by rw [hb.cell (by exact h.1)];exact h.2.1 j hj,fun j=>by rw [hb.frozen (by exact h.1)];exact h.2.2 j⟩
theorem Open4.set {j:Nat} (h:Open4 w b n) (hj:j<n*4):Open4 (w.setCell ⟨b,j,none⟩ v) b n:=by
 refine ⟨by simpa using h.1,fun i hi=>?_,fun i=>by have:=h.2.2 i;simpa using this⟩
 by_cases e:i=j
 · subst e
   obtain ⟨x,hx⟩:=h.2.1 i hi
   exact ⟨v,World.cell?_setCell_same _ _ _ hx⟩
 rw [World.cell?_setCell_other _ _ _ _ (adr_ne (Ne.symm e))]
 exact h.2.1 i hi
theorem marks_below (h:MarksAt K w b k) (hlt:b<w.heap.size) (hb:Below w.heap.size w w'):MarksAt K w' b k:=by
 intro j hj
 rw [hb.cell (by exact hlt),hb.cell (by exact hlt),hb.cell (by exact hlt),hb.cell (by exact hlt)]
 exact h j hj
theorem marks_set {j:Nat} (h:MarksAt K w b k) (hj:k*4<=j):MarksAt K (w.setCell ⟨b,j,none⟩ v) b k:=by
 intro i hi
 rw [World.cell?_setCell_other _ _ _ _ (adr_ne (by omega)),World.cell?_setCell_other _ _ _ _ (adr_ne (by omega)),World.cell?_setCell_other _ _ _ _ (adr_ne (by omega)),World.cell?_setCell_other _ _ _ _ (adr_ne (by omega))]
 exact h i hi
theorem marks_snoc (h:MarksAt K w b k) (h0:w.cell? ⟨b,k*4,none⟩=some (.bool (mkL K k).has)) (h1:w.cell? ⟨b,k*4+1,none⟩=some (.string (mkL K k).nm)) (h2:w.cell? ⟨b,k*4+2,none⟩=some (.int .i64 (mkL K k).cd)) (h3:w.cell? ⟨b,k*4+3,none⟩=some (.string (mkL K k).tx)):MarksAt K w b (k+1):=by
 intro i hi
 by_cases e:i=k
 · subst e;exact ⟨h0,h1,h2,h3⟩
 exact h i (by omega)
def Opn (w:World) (b c:Nat):Prop:=b<w.heap.size/\(∀ j,j<c->∃ v,w.cell? ⟨b,j,none⟩=some v)/\∀ j,w.frozen? ⟨b,j,none⟩=false
theorem Opn.below (h:Opn w b c) (hb:Below w.heap.size w w'):Opn w' b c:=
 ⟨Nat.lt_of_lt_of_le h.1 hb.size,fun j hj=>by rw [hb.cell (by exact h.1)];exact h.2.1 j hj,fun j=>by rw [hb.frozen (by exact h.1)];exact h.2.2 j⟩
theorem Opn.set {p:Addr} (h:Opn w b c):Opn (w.setCell p v) b c:=by
 refine ⟨by simpa using h.1,fun i hi=>?_,fun i=>by have:=h.2.2 i;simpa using this⟩
 obtain ⟨x,hx⟩:=h.2.1 i hi
 by_cases e:p=⟨b,i,none⟩
 · subst e;exact ⟨v,World.cell?_setCell_same _ _ _ hx⟩
 exact ⟨x,by rw [World.cell?_setCell_other _ _ _ _ e];exact hx⟩
theorem c28 (K:Int) (a:Option Addr) (b n cap:Nat) (w:World) (hK1:1<=K) (hK2:K<=50000000000000) (ha:n=0\/a=some ⟨b,0,none⟩) (hn:n<=1048576) (ho:n=0\/Open4 w b n):
 Calls prog 28 #[.slice a n cap,.int .i64 K] w fun e w'=>e=.returned (.int .i64 (K+4*(n:Int)))/\But b w w'/\MarksAt K w' b n:=by
 have HO:Hid (n=0\/Open4 w b n):=ho
 clear ho
 go_enter func28,ntmps28
 go_wp2_with fail
 go_loopw [1,5] (fun q i wr=>∃ (k:Nat),k<=n/\i=.int .i64 k/\q=.int .i64 (K+4*(k:Int))/\But b w wr/\Hid (n=0\/Open4 wr b n)/\Hid (MarksAt K wr b k)) (fun _ i _=>n - (intOf i).toNat)
 case atStart=>exact ⟨0,Nat.zero_le _,rfl,by simp,But.refl _ _,HO,fun j h=>absurd h (Nat.not_lt_zero _)⟩
 obtain ⟨k,hk,rfl,rfl,hb,hop0,hmk⟩:=hrel
 by_cases hlt:k<n
 rotate_left
 · obtain rfl:k=n:=by omega
   go_wp2
   go_ret
   exact ⟨rfl,hb,hmk.out⟩
 rcases ha with ha | rfl
 · omega
 have hop:Hid (Open4 wr b n):=by
  rcases hop0.out with h | h
  · omega
  exact h
 clear hop0
 obtain ⟨v0,g0⟩:=hop.out.2.1 (k*4) (by omega)
 have f0:=hop.out.2.2 (k*4)
 go_wp2_with fail
 refine (c27 _ _ (by omega) (by omega)).mono ?_
 rintro e w1 ⟨rfl,hb1⟩
 have HS0:Open4 (wr.setCell ⟨b,k*4,none⟩ (.bool ((K+4*(k:Int)) % 3==0))) b n:=hop.out.set (by omega)
 have HO1:Hid (Open4 w1 b n):=HS0.below hb1
 have HM1:Hid (MarksAt K w1 b k):=marks_below (marks_set hmk.out (Nat.le_refl _)) HS0.1 hb1
 have hB1:But b w w1:=(hb.setCell _ _).trans (But.of_below hb1)
 have x0:w1.cell? ⟨b,k*4,none⟩=some (.bool ((K+4*(k:Int)) % 3==0)):=(hb1.cell (p:=⟨b,k*4,none⟩) (by exact HS0.1)).trans (World.cell?_setCell_same _ _ _ g0)
 obtain ⟨v1,g1⟩:=HO1.out.2.1 (k*4+1) (by omega)
 have f1:=HO1.out.2.2 (k*4+1)
 have HS1:Hid (Open4 (w1.setCell ⟨b,k*4+1,none⟩ (.string (ofL (109::dec (K+4*(k:Int)+1))))) b n):=HO1.out.set (by omega)
 obtain ⟨v2,g2⟩:=HS1.out.2.1 (k*4+2) (by omega)
 have f2:=HS1.out.2.2 (k*4+2)
 clear hb1 hb hop hmk HS0 g0 f0
 go_wp2_with fail
 refine (c27 _ _ (by omega) (by omega)).mono ?_
 rintro e w2 ⟨rfl,hb2⟩
 have HS2:Open4 ((w1.setCell ⟨b,k*4+1,none⟩ (.string (ofL (109::dec (K+4*(k:Int)+1))))).setCell ⟨b,k*4+2,none⟩ (.int .i64 (K+4*(k:Int)+1+1))) b n:=HS1.out.set (by omega)
 have HO2:Hid (Open4 w2 b n):=HS2.below hb2
 have HM2:Hid (MarksAt K w2 b k):=marks_below (marks_set (marks_set HM1.out (by omega)) (by omega)) HS2.1 hb2
 have hB2:But b w w2:=((hB1.setCell _ _).setCell _ _).trans (But.of_below hb2)
 have y0:w2.cell? ⟨b,k*4,none⟩=some (.bool ((K+4*(k:Int)) % 3==0)):=(hb2.cell (p:=⟨b,k*4,none⟩) (by exact HS2.1)).trans (by rw [World.cell?_setCell_other _ _ _ _ (adr_ne (by omega)),World.cell?_setCell_other _ _ _ _ (adr_ne (by omega))];exact x0)
 have y1:w2.cell? ⟨b,k*4+1,none⟩=some (.string (ofL (109::dec (K+4*(k:Int)+1)))):=(hb2.cell (p:=⟨b,k*4+1,none⟩) (by exact HS2.1)).trans (by rw [World.cell?_setCell_other _ _ _ _ (adr_ne (by omega))];exact World.cell?_setCell_same _ _ _ g1)
 have y2:w2.cell? ⟨b,k*4+2,none⟩=some (.int .i64 (K+4*(k:Int)+1+1)):=(hb2.cell (p:=⟨b,k*4+2,none⟩) (by exact HS2.1)).trans (World.cell?_setCell_same _ _ _ g2)
 obtain ⟨v3,g3⟩:=HO2.out.2.1 (k*4+3) (by omega)
 have f3:=HO2.out.2.2 (k*4+3)
 clear hb2 HS2 hB1 HO1 HM1 g1 f1 g2 f2 x0 HS1
 go_wp2
 go_roundw
 case rel=>
  refine ⟨k+1,by omega,by go_num,by go_num,hB2.setCell _ _,.inr (HO2.out.set (by omega)),marks_snoc (marks_set HM2.out (by omega)) ?_ ?_ ?_ ?_⟩
  · rw [World.cell?_setCell_other _ _ _ _ (adr_ne (by omega))];exact y0
  · rw [World.cell?_setCell_other _ _ _ _ (adr_ne (by omega))];exact y1
  · rw [World.cell?_setCell_other _ _ _ _ (adr_ne (by omega)),y2];simp [mkL];omega
  rw [World.cell?_setCell_same _ _ _ g3];simp only [mkL];rw [show K+4*(k:Int)+1+1+1=K+4*(k:Int)+3 by omega]
 case measure=>simp [intOf];omega
theorem c29 (K:Int) (a:Option Addr) (b n cap:Nat) (w:World) (hK1:1<=K) (hK2:K<=50000000000000) (ha:n=0\/a=some ⟨b,0,none⟩) (hn:n<=1048576) (hbw:n=0\/b<w.heap.size) (hm:MarksAt K w b n):
 Calls prog 29 #[.slice a n cap,.int .i64 K] w fun e w'=>e=.returned (.int .i64 (K+4*(n:Int)))/\Below w.heap.size w w':=by
 have HM:Hid (MarksAt K w b n):=hm
 clear hm
 go_enter func29,ntmps29
 go_wp2_with fail
 go_loopw [1,5] (fun q i wr=>∃ (k:Nat),k<=n/\i=.int .i64 k/\q=.int .i64 (K+4*(k:Int))/\Below w.heap.size w wr) (fun _ i _=>n - (intOf i).toNat)
 case atStart=>exact ⟨0,Nat.zero_le _,rfl,by simp,Below.refl _ _⟩
 obtain ⟨k,hk,rfl,rfl,hb⟩:=hrel
 by_cases hlt:k<n
 rotate_left
 · obtain rfl:k=n:=by omega
   go_wp2
   go_ret
   exact ⟨rfl,hb⟩
 rcases ha with ha | rfl
 · omega
 have hbw:b<w.heap.size:=by rcases hbw with h | h <;> omega
 obtain ⟨c0,c1,c2,c3⟩:=HM.out k hlt
 have g0:wr.cell? ⟨b,k*4,none⟩=some (.bool ((K+4*(k:Int)) % 3==0)):=(hb.cell (p:=⟨b,k*4,none⟩) hbw).trans c0
 have g1:wr.cell? ⟨b,k*4+1,none⟩=some (.string (mtx (K+4*(k:Int)+1))):=(hb.cell (p:=⟨b,k*4+1,none⟩) hbw).trans c1
 have g2:wr.cell? ⟨b,k*4+2,none⟩=some (.int .i64 (K+4*(k:Int)+1+1)):=by
  rw [show K+4*(k:Int)+1+1=K+4*(k:Int)+2 by omega]
  exact (hb.cell (p:=⟨b,k*4+2,none⟩) hbw).trans c2
 have g3:wr.cell? ⟨b,k*4+3,none⟩=some (.string (mtx (K+4*(k:Int)+1+1+1))):=by
  rw [show K+4*(k:Int)+1+1+1=K+4*(k:Int)+3 by omega]
  exact (hb.cell (p:=⟨b,k*4+3,none⟩) hbw).trans c3
 have hbl:b<wr.heap.size:=Nat.lt_of_lt_of_le hbw hb.size
 have h41:=fun u=>c27 (K+4*(k:Int)+1) u (by omega) (by omega)
 have h41':=fun u=>c27 (K+4*(k:Int)+1+1+1) u (by omega) (by omega)
 have em:ofL (109::dec (K+4*(k:Int)+1))=mtx (K+4*(k:Int)+1):=rfl
 have em':ofL (109::dec (K+4*(k:Int)+1+1+1))=mtx (K+4*(k:Int)+1+1+1):=rfl
 rw [em] at h41
 rw [em'] at h41'
 clear em em' c0 c1 c2 c3
 generalize mtx (K+4*(k:Int)+1)=mx at*
 generalize mtx (K+4*(k:Int)+1+1+1)=my at*
 go_wp2_with fail
 refine wp_region_held_drew (S:=(fun u=>u.cell? ⟨b,k*4+1,none⟩=some (.string mx))) (by kernel_rfl) ?_ (fun hHeld=>?_)
 · ((try dsimp only);first | exact g1 | exact (hb1.cell (p:=⟨b,k*4+1,none⟩) hbl).trans g1)
 refine tq 0 hHeld ?_
 refine tq 1 hHeld ?_
 refine tq 2 hHeld ?_
 refine tq 3 hHeld ?_
 refine tq 4 hHeld ?_ (v:=?_) (hv:=?e)
 case e=>intro wq hSw;(try dsimp only at hSw);go_simp;try with_reducible rfl
 refine tq 5 hHeld ?_
 try simp only [qq]
 refine rq 6 (fun K hK=>?_)
 go_simp
 refine (h41 _).mono ?_
 rintro e w1 ⟨rfl,hb0⟩
 have hb1:=(Below.refl wr.heap.size wr).drew.trans hb0
 go_wp2_with fail
 clear hHeld
 refine hK.out _ _ ?_ (fun hHeld=>?_)
 · ((try dsimp only);first | exact g1 | exact (hb1.cell (p:=⟨b,k*4+1,none⟩) hbl).trans g1)
 clear hK K
 refine tq 7 hHeld ?_
 try simp only [qq]
 refine wpAnyH_done (by kernel_rfl) ?_ _
 have i2:=(hb1.cell (p:=⟨b,k*4+2,none⟩) hbl).trans g2
 have i3:=(hb1.cell (p:=⟨b,k*4+3,none⟩) hbl).trans g3
 have hbl1:b<w1.heap.size:=Nat.lt_of_lt_of_le hbl hb1.size
 clear g0 g1 g2 g3 h41
 go_wp2_with fail
 refine wp_region_held_drew (S:=(fun u=>u.cell? ⟨b,k*4+3,none⟩=some (.string my))) (by kernel_rfl) ?_ (fun hHeld=>?_)
 · ((try dsimp only);first | exact i3 | exact (hb2.cell (p:=⟨b,k*4+3,none⟩) hbl1).trans i3)
 refine tq 0 hHeld ?_
 refine tq 1 hHeld ?_
 refine tq 2 hHeld ?_
 refine tq 3 hHeld ?_
 refine tq 4 hHeld ?_
 refine tq 5 hHeld ?_ (v:=?_) (hv:=?e)
 case e=>intro wq hSw;(try dsimp only at hSw);go_simp;try with_reducible rfl
 refine tq 6 hHeld ?_
 try simp only [qq]
 refine rq 7 (fun K hK=>?_)
 go_simp
 refine (h41' _).mono ?_
 rintro e w2 ⟨rfl,hb20⟩
 have hb2:=(Below.refl w1.heap.size w1).drew.trans hb20
 go_wp2_with fail
 clear hHeld
 refine hK.out _ _ ?_ (fun hHeld=>?_)
 · ((try dsimp only);first | exact i3 | exact (hb2.cell (p:=⟨b,k*4+3,none⟩) hbl1).trans i3)
 clear hK K
 refine tq 8 hHeld ?_
 try simp only [qq]
 refine wpAnyH_done (by kernel_rfl) ?_ _
 go_wp2
 go_roundw
 case rel=>exact ⟨k+1,by omega,by go_num,by go_num,(hb.trans (hb1.mono hb.size)).trans (hb2.mono (hb.trans (hb1.mono hb.size)).size)⟩
 case measure=>simp [intOf];omega
theorem c26 (K:Int) (a:Option Addr) (b n cap:Nat) (w:World) (hK1:1<=K) (hK2:K<=50000000000000) (ha:n=0\/a=some ⟨b,0,none⟩) (hn:n<=1048576) (ho:Opn w b (n*2)):
 Calls prog 26 #[.slice a n cap,.int .i64 K] w fun e w'=>e=.returned (.int .i64 (K+2*(n:Int)))/\But b w w':=by
 have HO:Hid (Opn w b (n*2)):=ho
 clear ho
 go_enter func26,ntmps26
 go_wp2_with fail
 go_loopw [1,5] (fun q i wr=>∃ (k:Nat),k<=n/\i=.int .i64 k/\q=.int .i64 (K+2*(k:Int))/\But b w wr/\Hid (Opn wr b (n*2))) (fun _ i _=>n - (intOf i).toNat)
 case atStart=>exact ⟨0,Nat.zero_le _,rfl,by simp,But.refl _ _,HO⟩
 obtain ⟨k,hk,rfl,rfl,hb,hop⟩:=hrel
 by_cases hlt:k<n
 rotate_left
 · obtain rfl:k=n:=by omega
   go_wp2
   go_ret
   exact ⟨rfl,hb⟩
 rcases ha with ha | rfl
 · omega
 go_wp2_with fail
 refine (c27 _ _ (by omega) (by omega)).mono ?_
 rintro e w1 ⟨rfl,hb1⟩
 have HO1:Hid (Opn w1 b (n*2)):=hop.out.below hb1
 have hB1:But b w w1:=hb.trans (But.of_below hb1)
 obtain ⟨v0,g0⟩:=HO1.out.2.1 (k*2) (by omega)
 have f0:=HO1.out.2.2 (k*2)
 clear hb1 hb hop
 go_wp2_with fail
 refine (c27 _ _ (by omega) (by omega)).mono ?_
 rintro e w2 ⟨rfl,hb2⟩
 have HO2:Hid (Opn w2 b (n*2)):=HO1.out.set.below hb2
 have hB2:=(hB1.setCell _ _).trans (But.of_below hb2)
 obtain ⟨v1,g1⟩:=HO2.out.2.1 (k*2+1) (by omega)
 have f1:=HO2.out.2.2 (k*2+1)
 clear hb2 HO1 hB1 g0 f0
 go_wp2
 go_roundw
 case rel=>exact ⟨k+1,by omega,by go_num,by go_num,hB2.setCell _ _,HO2.out.set⟩
 case measure=>simp [intOf];omega
theorem c10 (K:Int) (a:Option Addr) (b n cap:Nat) (w:World) (hK1:1<=K) (hK2:K<=50000000000000) (ha:n=0\/a=some ⟨b,0,none⟩) (hn:n<=1048576) (ho:Opn w b (n*2)):
 Calls prog 10 #[.agg #[.slice a n cap],.int .i64 K] w fun e w'=>e=.returned (.int .i64 (K+2*(n:Int)))/\But b w w':=by
 have hB0:∀ o,Below w.heap.size w (w.alloc o):=fun o=>(Below.refl _ _).alloc (Nat.le_refl _) _
 go_enter func10,ntmps10
 go_wp2_with fail
 refine (c26 K a b n cap _ hK1 hK2 ha hn (ho.below (hB0 _))).mono ?_
 rintro e w1 ⟨rfl,hb1⟩
 have hB:But b w w1:=(But.of_below (hB0 _)).trans hb1
 go_wp2
 go_ret
 exact ⟨rfl,hB⟩
theorem c77 (x:L4) (w:World):
 Calls prog 77 #[.agg #[.bool x.has,.string x.nm,.int .i64 x.cd,.string x.tx],.agg #[.bool x.has,.string x.nm,.int .i64 x.cd,.string x.tx]] w fun e w'=>e=.returned (.bool true)/\Below w.heap.size w w':=by
 go_enter func77,ntmps77
 go_wp2_with fail
 have hB:∀ o1 o2,Below w.heap.size w ((w.alloc o1).alloc o2):=fun o1 o2=>((Below.refl _ _).alloc (Nat.le_refl _) _).alloc (by simp) _
 refine (c51 x.cd x.tx _).mono ?_
 rintro e w1 ⟨rfl,hb1⟩
 go_wp2
 go_ret
 exact ⟨rfl,(hB _ _).trans (hb1.mono (by simp;omega))⟩
theorem c50 (a a':Option Addr) (cap cap':Nat) (is:List L4) (w:World) (hl:is.length<=1048576) (hat:LksAt w a is) (hat':LksAt w a' is):
 Calls prog 50 #[.slice a is.length cap,.slice a' is.length cap'] w fun e w'=>e=.returned (.bool true)/\Below w.heap.size w w':=by
 obtain ⟨b,off,hc⟩:=lks_some hat
 have HC:Hid (is=[]\/(a=some ⟨b,off,none⟩/\b<w.heap.size/\∀ i,i<is.length->w.cell? ⟨b,off+i*4,none⟩=some (.bool (is.getD i l4z).has)/\w.cell? ⟨b,off+i*4+1,none⟩=some (.string (is.getD i l4z).nm)/\w.cell? ⟨b,off+i*4+2,none⟩=some (.int .i64 (is.getD i l4z).cd)/\w.cell? ⟨b,off+i*4+3,none⟩=some (.string (is.getD i l4z).tx))):=hc
 clear hc hat
 obtain ⟨b',off',hc'⟩:=lks_some hat'
 have HC':Hid (is=[]\/(a'=some ⟨b',off',none⟩/\b'<w.heap.size/\∀ i,i<is.length->w.cell? ⟨b',off'+i*4,none⟩=some (.bool (is.getD i l4z).has)/\w.cell? ⟨b',off'+i*4+1,none⟩=some (.string (is.getD i l4z).nm)/\w.cell? ⟨b',off'+i*4+2,none⟩=some (.int .i64 (is.getD i l4z).cd)/\w.cell? ⟨b',off'+i*4+3,none⟩=some (.string (is.getD i l4z).tx))):=hc'
 clear hc' hat'
 go_enter func50,ntmps50
 go_wp2_with fail
 go_loopw [5] (fun i wr=>∃ (k:Nat),k<=is.length/\i=.int .i64 k/\Below w.heap.size w wr) (fun i _=>is.length - (intOf i).toNat)
 case atStart=>exact ⟨0,Nat.zero_le _,rfl,Below.refl _ _⟩
 obtain ⟨k,hk,rfl,hb⟩:=hrel
 by_cases hlt:k<is.length
 rotate_left
 · go_wp2
   go_ret
   exact ⟨rfl,hb⟩
 rcases HC.out with hss | ⟨ha,hbw,hcell⟩
 · rw [hss] at hlt;exact absurd hlt (Nat.not_lt_zero _)
 rcases HC'.out with hss | ⟨ha',hbw',hcell'⟩
 · rw [hss] at hlt;exact absurd hlt (Nat.not_lt_zero _)
 subst ha
 subst ha'
 have g0:=(hb.cell (p:=⟨b,off+k*4,none⟩) hbw).trans (hcell k hlt).1
 have g1:=(hb.cell (p:=⟨b,off+k*4+1,none⟩) hbw).trans (hcell k hlt).2.1
 have g2:=(hb.cell (p:=⟨b,off+k*4+2,none⟩) hbw).trans (hcell k hlt).2.2.1
 have g3:=(hb.cell (p:=⟨b,off+k*4+3,none⟩) hbw).trans (hcell k hlt).2.2.2
 have g0':=(hb.cell (p:=⟨b',off'+k*4,none⟩) hbw').trans (hcell' k hlt).1
 have g1':=(hb.cell (p:=⟨b',off'+k*4+1,none⟩) hbw').trans (hcell' k hlt).2.1
 have g2':=(hb.cell (p:=⟨b',off'+k*4+2,none⟩) hbw').trans (hcell' k hlt).2.2.1
 have g3':=(hb.cell (p:=⟨b',off'+k*4+3,none⟩) hbw').trans (hcell' k hlt).2.2.2
 generalize is.getD k l4z=x at*
 clear hcell hcell'
 go_wp2_with fail
 go_region_with (go_at_call 77;refine (c77 x _).mono ?_;rintro e w1 ⟨rfl,hb1⟩)
 all_goals go_wp2
 all_goals go_roundw
 all_goals first
  | exact ⟨k+1,by omega,by go_num,(hb.drew).trans (hb1.mono hb.size)⟩
  | (simp [intOf];omega)
