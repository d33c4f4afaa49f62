import Derived.Test.YtmalddmgdjkgaaaGreatDoorZ17
import Derived.Test.YtmalddmgdjkgaaaGreatDoorZ35
import Derived.Test.YtmalddmgdjkgaaaGreatDoorZ37
import Derived.Test.YtmalddmgdjkgaaaGreatDoorQA
import Derived.Laws.Rows
import Derived.Laws.IdiomCopy
import Derived.Test.YtmalddmgdjkgaaaGreatDoorZ50
import Derived.Test.YtmalddmgdjkgaaaGreatDoorZ48
import Derived.Test.YtmalddmgdjkgaaaGreatDoorZ51
namespace Go.Proofs.YtmalddmgdjkgaaaGreatDoor.M
open Go.RowKit
set_option maxRecDepth 100000
theorem cat_ofL (a b:List UInt8):ofL a++ofL b=ofL (a++b):=by apply ByteArray.ext;simp [ofL]
theorem one_ofL (c:UInt8):(⟨#[c]⟩:ByteArray)=ofL [c]:=rfl
theorem cons_ofL (x:Int) (l:List UInt8):strOfNums [x]++ofL l=ofL (UInt8.ofNat x.toNat::l):=by
 apply ByteArray.ext
 simp [ofL,strOfNums]
set_option maxHeartbeats 400000 in
theorem c26 (K:Int) (w:World) (h1:1≤K) (h2:K≤100000000000000):
 Calls Tryz.prog 26 #[.int .i64 K] w fun e w'=>e=.returned (.string (ofL (109::dec K)))∧Below w.heap.size w w':=by
 have hcv:=conv1
 have hcd:=convD
 have hz:∀ y,(strOfNums [y]).size=1:=fun y=>strOfNums_size [y]
 have hdl:(dec K).length≤100000000000001:=by
  have:=decF_len (K.toNat+1) K
  unfold dec;omega
 go_enter Tryz.func26,Tryz.ntmps26
 go_wp2_with fail
 go_loopw [0,3] (fun k o wr=>∃ (m:Int) (l:List UInt8),0≤m∧m≤100000000000000∧k=.int .i64 m∧o=.string (ofL l)∧Hid (dec K=if m=0 then l else dec m++l)∧Below w.heap.size w wr) (fun k _ _=>(intOf k).toNat)
 case atStart=>exact ⟨K,[],by omega,h2,rfl,rfl,by rw [if_neg (by omega)];simp [Hid],Below.refl _ _⟩
 case round=>
  obtain ⟨m,l,hm0,hm1,rfl,rfl,hl,hb⟩:=hrel
  by_cases hlt:0<m
  · have hsz:(ofL l).size≤100000000000001:=by
     have:=hl.out
     rw [if_neg (by omega)] at this
     have:=congrArg List.length this
     rw [List.length_append] at this
     rw [ofL_size];omega
    have HN:Hid (dec K=if m / 10=0 then UInt8.ofNat (48+m % 10).toNat::l else dec (m / 10)++(UInt8.ofNat (48+m % 10).toNat::l)):=by
     have h:=hl.out
     rw [if_neg (by omega)] at h
     by_cases h10:m<10
     · rw [dec_lt m h10] at h
       rw [if_pos (by omega),show m % 10=m by omega]
       exact h
     · rw [dec_ge m (by omega)] at h
       rw [if_neg (by omega)]
       exact h.trans (by simp)
    go_wp2
    go_roundw
    case rel=>exact ⟨m / 10,_,by omega,by omega,rfl,by rw [cons_ofL],HN,hb.alloc hb.size _⟩
    case measure=>simp [intOf];omega
  · obtain rfl:m=0:=by omega
    have HN:Hid (dec K=l):=by have h:=hl.out;rwa [if_pos rfl] at h
    have hsz:(ofL l).size≤100000000000001:=by rw [ofL_size,← HN.out];exact hdl
    go_wp2
    go_ret
    exact ⟨ret_str (by rw [HN.out];simp only [one_ofL,cat_ofL];rfl),hb⟩
def mtx (K:Int):ByteArray:=ofL (109::dec K)
def mkL (K:Int) (i:Nat):L4:=⟨((K+4*(i:Int)) % 3==0),ofL (109::dec (K+4*(i:Int)+1)),K+4*(i:Int)+2,ofL (109::dec (K+4*(i:Int)+3))⟩
def MarksAt (K:Int) (w:World) (b k:Nat):Prop:=∀ j,j<k→w.cell? ⟨b,j*4,none⟩=some (.bool (mkL K j).has)∧w.cell? ⟨b,j*4+1,none⟩=some (.string (mkL K j).nm)∧w.cell? ⟨b,j*4+2,none⟩=some (.int .i64 (mkL K j).cd)∧w.cell? ⟨b,j*4+3,none⟩=some (.string (mkL K j).tx)
def Open4 (w:World) (b n:Nat):Prop:=b<w.heap.size∧(∀ j,j<n*4→∃ v,w.cell? ⟨b,j,none⟩=some v)∧∀ j,w.frozen? ⟨b,j,none⟩=false
theorem Open4.below {w w':World} {b n:Nat} (h:Open4 w b n) (hb:Below w.heap.size w w'):Open4 w' b n:=
 ⟨Nat.lt_of_lt_of_le h.1 hb.size,fun j hj=>by rw [hb.cell (by exact h.1)];exact h.2.1 j hj,fun j=>by rw [hb.frozen (by exact h.1)];exact h.2.2 j⟩
theorem Open4.set {w:World} {b n j:Nat} {v:Value} (h:Open4 w b n) (hj:j<n*4):Open4 (w.setCell ⟨b,j,none⟩ v) b n:=by
 refine ⟨by simpa using h.1,fun i hi=>?_,fun i=>by have:=h.2.2 i;simpa using this⟩
 by_cases e:i=j
 · subst e
   obtain ⟨x,hx⟩:=h.2.1 i hi
   exact ⟨v,World.cell?_setCell_same _ _ _ hx⟩
 · rw [World.cell?_setCell_other _ _ _ _ (adr_ne (Ne.symm e))]
   exact h.2.1 i hi
theorem marks_below {K:Int} {w w':World} {b k:Nat} (h:MarksAt K w b k) (hlt:b<w.heap.size) (hb:Below w.heap.size w w'):MarksAt K w' b k:=by
 intro j hj
 rw [hb.cell (by exact hlt),hb.cell (by exact hlt),hb.cell (by exact hlt),hb.cell (by exact hlt)]
 exact h j hj
theorem marks_set {K:Int} {w:World} {b k j:Nat} {v:Value} (h:MarksAt K w b k) (hj:k*4≤j):MarksAt K (w.setCell ⟨b,j,none⟩ v) b k:=by
 intro i hi
 rw [World.cell?_setCell_other _ _ _ _ (adr_ne (by omega)),World.cell?_setCell_other _ _ _ _ (adr_ne (by omega)),World.cell?_setCell_other _ _ _ _ (adr_ne (by omega)),World.cell?_setCell_other _ _ _ _ (adr_ne (by omega))]
 exact h i hi
theorem marks_snoc {K:Int} {w:World} {b k:Nat} (h:MarksAt K w b k) (h0:w.cell? ⟨b,k*4,none⟩=some (.bool (mkL K k).has)) (h1:w.cell? ⟨b,k*4+1,none⟩=some (.string (mkL K k).nm)) (h2:w.cell? ⟨b,k*4+2,none⟩=some (.int .i64 (mkL K k).cd)) (h3:w.cell? ⟨b,k*4+3,none⟩=some (.string (mkL K k).tx)):MarksAt K w b (k+1):=by
 intro i hi
 by_cases e:i=k
 · subst e;exact ⟨h0,h1,h2,h3⟩
 · exact h i (by omega)
def Opn (w:World) (b c:Nat):Prop:=b<w.heap.size∧(∀ j,j<c→∃ v,w.cell? ⟨b,j,none⟩=some v)∧∀ j,w.frozen? ⟨b,j,none⟩=false
theorem Opn.below {w w':World} {b c:Nat} (h:Opn w b c) (hb:Below w.heap.size w w'):Opn w' b c:=
 ⟨Nat.lt_of_lt_of_le h.1 hb.size,fun j hj=>by rw [hb.cell (by exact h.1)];exact h.2.1 j hj,fun j=>by rw [hb.frozen (by exact h.1)];exact h.2.2 j⟩
theorem Opn.set {w:World} {b c:Nat} {p:Addr} {v:Value} (h:Opn w b c):Opn (w.setCell p v) b c:=by
 refine ⟨by simpa using h.1,fun i hi=>?_,fun i=>by have:=h.2.2 i;simpa using this⟩
 obtain ⟨x,hx⟩:=h.2.1 i hi
 by_cases e:p=⟨b,i,none⟩
 · subst e;exact ⟨v,World.cell?_setCell_same _ _ _ hx⟩
 · exact ⟨x,by rw [World.cell?_setCell_other _ _ _ _ e];exact hx⟩
set_option maxHeartbeats 2000000 in
theorem c11 (K:Int) (a:Option Addr) (b n cap:Nat) (w:World) (hK1:1≤K) (hK2:K≤50000000000000) (ha:n=0∨a=some ⟨b,0,none⟩) (hn:n≤1048576) (ho:n=0∨Open4 w b n):
 Calls Tryz.prog 11 #[.slice a n cap,.int .i64 K] w fun e w'=>e=.returned (.int .i64 (K+4*(n:Int)))∧But b w w'∧MarksAt K w' b n:=by
 have HO:Hid (n=0∨Open4 w b n):=ho
 clear ho
 go_enter Tryz.func11,Tryz.ntmps11
 go_wp2_with fail
 go_loopw [1,5] (fun q i wr=>∃ (k:Nat),k≤n∧i=.int .i64 k∧q=.int .i64 (K+4*(k:Int))∧But b w wr∧Hid (n=0∨Open4 wr b n)∧Hid (MarksAt K wr b k)) (fun _ i _=>n - (intOf i).toNat)
 case atStart=>exact ⟨0,Nat.zero_le _,rfl,by simp,But.refl _ _,HO,fun j h=>absurd h (Nat.not_lt_zero _)⟩
 case round=>
  obtain ⟨k,hk,rfl,rfl,hb,hop0,hmk⟩:=hrel
  by_cases hlt:k<n
  · rcases ha with ha | rfl
    · omega
    have hop:Hid (Open4 wr b n):=by
     rcases hop0.out with h | h
     · omega
     exact h
    clear hop0
    obtain ⟨v0,g0⟩:=hop.out.2.1 (k*4) (by omega)
    have f0:=hop.out.2.2 (k*4)
    go_wp2_with fail
    refine (c26 _ _ (by omega) (by omega)).mono ?_
    rintro e w1 ⟨rfl,hb1⟩
    have HS0:Open4 (wr.setCell ⟨b,k*4,none⟩ (.bool ((K+4*(k:Int)) % 3==0))) b n:=hop.out.set (by omega)
    have HO1:Hid (Open4 w1 b n):=HS0.below hb1
    have HM1:Hid (MarksAt K w1 b k):=marks_below (marks_set hmk.out (Nat.le_refl _)) HS0.1 hb1
    have hB1:But b w w1:=(hb.setCell _ _).trans (But.of_below hb1)
    have x0:w1.cell? ⟨b,k*4,none⟩=some (.bool ((K+4*(k:Int)) % 3==0)):=(hb1.cell (p:=⟨b,k*4,none⟩) (by exact HS0.1)).trans (World.cell?_setCell_same _ _ _ g0)
    obtain ⟨v1,g1⟩:=HO1.out.2.1 (k*4+1) (by omega)
    have f1:=HO1.out.2.2 (k*4+1)
    have HS1:Hid (Open4 (w1.setCell ⟨b,k*4+1,none⟩ (.string (ofL (109::dec (K+4*(k:Int)+1))))) b n):=HO1.out.set (by omega)
    obtain ⟨v2,g2⟩:=HS1.out.2.1 (k*4+2) (by omega)
    have f2:=HS1.out.2.2 (k*4+2)
    clear hb1 hb hop hmk HS0 g0 f0
    go_wp2_with fail
    refine (c26 _ _ (by omega) (by omega)).mono ?_
    rintro e w2 ⟨rfl,hb2⟩
    have HS2:Open4 ((w1.setCell ⟨b,k*4+1,none⟩ (.string (ofL (109::dec (K+4*(k:Int)+1))))).setCell ⟨b,k*4+2,none⟩ (.int .i64 (K+4*(k:Int)+1+1))) b n:=HS1.out.set (by omega)
    have HO2:Hid (Open4 w2 b n):=HS2.below hb2
    have HM2:Hid (MarksAt K w2 b k):=marks_below (marks_set (marks_set HM1.out (by omega)) (by omega)) HS2.1 hb2
    have hB2:But b w w2:=((hB1.setCell _ _).setCell _ _).trans (But.of_below hb2)
    have y0:w2.cell? ⟨b,k*4,none⟩=some (.bool ((K+4*(k:Int)) % 3==0)):=(hb2.cell (p:=⟨b,k*4,none⟩) (by exact HS2.1)).trans (by rw [World.cell?_setCell_other _ _ _ _ (adr_ne (by omega)),World.cell?_setCell_other _ _ _ _ (adr_ne (by omega))];exact x0)
    have y1:w2.cell? ⟨b,k*4+1,none⟩=some (.string (ofL (109::dec (K+4*(k:Int)+1)))):=(hb2.cell (p:=⟨b,k*4+1,none⟩) (by exact HS2.1)).trans (by rw [World.cell?_setCell_other _ _ _ _ (adr_ne (by omega))];exact World.cell?_setCell_same _ _ _ g1)
    have y2:w2.cell? ⟨b,k*4+2,none⟩=some (.int .i64 (K+4*(k:Int)+1+1)):=(hb2.cell (p:=⟨b,k*4+2,none⟩) (by exact HS2.1)).trans (World.cell?_setCell_same _ _ _ g2)
    obtain ⟨v3,g3⟩:=HO2.out.2.1 (k*4+3) (by omega)
    have f3:=HO2.out.2.2 (k*4+3)
    clear hb2 HS2 hB1 HO1 HM1 g1 f1 g2 f2 x0 HS1
    go_wp2
    go_roundw
    case rel=>
     refine ⟨k+1,by omega,by go_num,by go_num,hB2.setCell _ _,.inr (HO2.out.set (by omega)),marks_snoc (marks_set HM2.out (by omega)) ?_ ?_ ?_ ?_⟩
     · rw [World.cell?_setCell_other _ _ _ _ (adr_ne (by omega))];exact y0
     · rw [World.cell?_setCell_other _ _ _ _ (adr_ne (by omega))];exact y1
     · rw [World.cell?_setCell_other _ _ _ _ (adr_ne (by omega)),y2];simp [mkL];omega
     · rw [World.cell?_setCell_same _ _ _ g3];simp only [mkL];rw [show K+4*(k:Int)+1+1+1=K+4*(k:Int)+3 by omega]
    case measure=>simp [intOf];omega
  · obtain rfl:k=n:=by omega
    go_wp2
    go_ret
    exact ⟨rfl,hb,hmk.out⟩
set_option maxHeartbeats 4000000 in
theorem c12 (K:Int) (a:Option Addr) (b n cap:Nat) (w:World) (hK1:1≤K) (hK2:K≤50000000000000) (ha:n=0∨a=some ⟨b,0,none⟩) (hn:n≤1048576) (hbw:n=0∨b<w.heap.size) (hm:MarksAt K w b n):
 Calls Tryz.prog 12 #[.slice a n cap,.int .i64 K] w fun e w'=>e=.returned (.int .i64 (K+4*(n:Int)))∧Below w.heap.size w w':=by
 have HM:Hid (MarksAt K w b n):=hm
 clear hm
 go_enter Tryz.func12,Tryz.ntmps12
 go_wp2_with fail
 go_loopw [1,5] (fun q i wr=>∃ (k:Nat),k≤n∧i=.int .i64 k∧q=.int .i64 (K+4*(k:Int))∧Below w.heap.size w wr) (fun _ i _=>n - (intOf i).toNat)
 case atStart=>exact ⟨0,Nat.zero_le _,rfl,by simp,Below.refl _ _⟩
 case round=>
  obtain ⟨k,hk,rfl,rfl,hb⟩:=hrel
  by_cases hlt:k<n
  · rcases ha with ha | rfl
    · omega
    have hbw:b<w.heap.size:=by rcases hbw with h | h <;> omega
    obtain ⟨c0,c1,c2,c3⟩:=HM.out k hlt
    have g0:wr.cell? ⟨b,k*4,none⟩=some (.bool ((K+4*(k:Int)) % 3==0)):=(hb.cell (p:=⟨b,k*4,none⟩) hbw).trans c0
    have g1:wr.cell? ⟨b,k*4+1,none⟩=some (.string (mtx (K+4*(k:Int)+1))):=(hb.cell (p:=⟨b,k*4+1,none⟩) hbw).trans c1
    have g2:wr.cell? ⟨b,k*4+2,none⟩=some (.int .i64 (K+4*(k:Int)+1+1)):=by
     rw [show K+4*(k:Int)+1+1=K+4*(k:Int)+2 by omega]
     exact (hb.cell (p:=⟨b,k*4+2,none⟩) hbw).trans c2
    have g3:wr.cell? ⟨b,k*4+3,none⟩=some (.string (mtx (K+4*(k:Int)+1+1+1))):=by
     rw [show K+4*(k:Int)+1+1+1=K+4*(k:Int)+3 by omega]
     exact (hb.cell (p:=⟨b,k*4+3,none⟩) hbw).trans c3
    have hbl:b<wr.heap.size:=Nat.lt_of_lt_of_le hbw hb.size
    have h41:=fun u=>c26 (K+4*(k:Int)+1) u (by omega) (by omega)
    have h41':=fun u=>c26 (K+4*(k:Int)+1+1+1) u (by omega) (by omega)
    have em:ofL (109::dec (K+4*(k:Int)+1))=mtx (K+4*(k:Int)+1):=rfl
    have em':ofL (109::dec (K+4*(k:Int)+1+1+1))=mtx (K+4*(k:Int)+1+1+1):=rfl
    rw [em] at h41
    rw [em'] at h41'
    clear em em' c0 c1 c2 c3
    generalize mtx (K+4*(k:Int)+1)=mx at*
    generalize mtx (K+4*(k:Int)+1+1+1)=my at*
    go_wp2_with fail
    refine wp_region_held_drew (S:=(fun u=>u.cell? ⟨b,k*4+1,none⟩=some (.string mx))) (by kernel_rfl) ?_ (fun hHeld=>?_)
    · ((try dsimp only);first | exact g1 | exact (hb1.cell (p:=⟨b,k*4+1,none⟩) hbl).trans g1)
    refine tq 0 hHeld ?_
    try simp only [qq]
    refine tq 1 hHeld ?_
    try simp only [qq]
    refine tq 2 hHeld ?_
    try simp only [qq]
    refine tq 3 hHeld ?_
    try simp only [qq]
    refine tq 4 hHeld ?_ (v:=?_) (hv:=?e)
    case e=>intro wq hSw;(try dsimp only at hSw);go_simp;try with_reducible rfl
    try simp only [qq]
    refine tq 5 hHeld ?_
    try simp only [qq]
    refine rq 6 (fun K hK=>?_)
    go_simp
    refine (h41 _).mono ?_
    rintro e w1 ⟨rfl,hb0⟩
    have hb1:=(Below.refl wr.heap.size wr).drew.trans hb0
    go_wp2_with fail
    clear hHeld
    refine hK.out _ _ ?_ (fun hHeld=>?_)
    · ((try dsimp only);first | exact g1 | exact (hb1.cell (p:=⟨b,k*4+1,none⟩) hbl).trans g1)
    clear hK K
    try simp only [qq]
    refine tq 7 hHeld ?_
    try simp only [qq]
    refine wpAnyH_done (by kernel_rfl) ?_ _
    have i2:=(hb1.cell (p:=⟨b,k*4+2,none⟩) hbl).trans g2
    have i3:=(hb1.cell (p:=⟨b,k*4+3,none⟩) hbl).trans g3
    have hbl1:b<w1.heap.size:=Nat.lt_of_lt_of_le hbl hb1.size
    clear g0 g1 g2 g3 h41
    go_wp2_with fail
    refine wp_region_held_drew (S:=(fun u=>u.cell? ⟨b,k*4+3,none⟩=some (.string my))) (by kernel_rfl) ?_ (fun hHeld=>?_)
    · ((try dsimp only);first | exact i3 | exact (hb2.cell (p:=⟨b,k*4+3,none⟩) hbl1).trans i3)
    refine tq 0 hHeld ?_
    try simp only [qq]
    refine tq 1 hHeld ?_
    try simp only [qq]
    refine tq 2 hHeld ?_
    try simp only [qq]
    refine tq 3 hHeld ?_
    try simp only [qq]
    refine tq 4 hHeld ?_
    try simp only [qq]
    refine tq 5 hHeld ?_ (v:=?_) (hv:=?e)
    case e=>intro wq hSw;(try dsimp only at hSw);go_simp;try with_reducible rfl
    try simp only [qq]
    refine tq 6 hHeld ?_
    try simp only [qq]
    refine rq 7 (fun K hK=>?_)
    go_simp
    refine (h41' _).mono ?_
    rintro e w2 ⟨rfl,hb20⟩
    have hb2:=(Below.refl w1.heap.size w1).drew.trans hb20
    go_wp2_with fail
    clear hHeld
    refine hK.out _ _ ?_ (fun hHeld=>?_)
    · ((try dsimp only);first | exact i3 | exact (hb2.cell (p:=⟨b,k*4+3,none⟩) hbl1).trans i3)
    clear hK K
    try simp only [qq]
    refine tq 8 hHeld ?_
    try simp only [qq]
    refine wpAnyH_done (by kernel_rfl) ?_ _
    go_wp2
    go_roundw
    case rel=>exact ⟨k+1,by omega,by go_num,by go_num,(hb.trans (hb1.mono hb.size)).trans (hb2.mono (hb.trans (hb1.mono hb.size)).size)⟩
    case measure=>simp [intOf];omega
  · obtain rfl:k=n:=by omega
    go_wp2
    go_ret
    exact ⟨rfl,hb⟩
set_option maxHeartbeats 2000000 in
theorem c25 (K:Int) (a:Option Addr) (b n cap:Nat) (w:World) (hK1:1≤K) (hK2:K≤50000000000000) (ha:n=0∨a=some ⟨b,0,none⟩) (hn:n≤1048576) (ho:Opn w b (n*2)):
 Calls Tryz.prog 25 #[.slice a n cap,.int .i64 K] w fun e w'=>e=.returned (.int .i64 (K+2*(n:Int)))∧But b w w':=by
 have HO:Hid (Opn w b (n*2)):=ho
 clear ho
 go_enter Tryz.func25,Tryz.ntmps25
 go_wp2_with fail
 go_loopw [1,5] (fun q i wr=>∃ (k:Nat),k≤n∧i=.int .i64 k∧q=.int .i64 (K+2*(k:Int))∧But b w wr∧Hid (Opn wr b (n*2))) (fun _ i _=>n - (intOf i).toNat)
 case atStart=>exact ⟨0,Nat.zero_le _,rfl,by simp,But.refl _ _,HO⟩
 case round=>
  obtain ⟨k,hk,rfl,rfl,hb,hop⟩:=hrel
  by_cases hlt:k<n
  · rcases ha with ha | rfl
    · omega
    go_wp2_with fail
    refine (c26 _ _ (by omega) (by omega)).mono ?_
    rintro e w1 ⟨rfl,hb1⟩
    have HO1:Hid (Opn w1 b (n*2)):=hop.out.below hb1
    have hB1:But b w w1:=hb.trans (But.of_below hb1)
    obtain ⟨v0,g0⟩:=HO1.out.2.1 (k*2) (by omega)
    have f0:=HO1.out.2.2 (k*2)
    clear hb1 hb hop
    go_wp2_with fail
    refine (c26 _ _ (by omega) (by omega)).mono ?_
    rintro e w2 ⟨rfl,hb2⟩
    have HO2:Hid (Opn w2 b (n*2)):=HO1.out.set.below hb2
    have hB2:=(hB1.setCell _ _).trans (But.of_below hb2)
    obtain ⟨v1,g1⟩:=HO2.out.2.1 (k*2+1) (by omega)
    have f1:=HO2.out.2.2 (k*2+1)
    clear hb2 HO1 hB1 g0 f0
    go_wp2
    go_roundw
    case rel=>exact ⟨k+1,by omega,by go_num,by go_num,hB2.setCell _ _,HO2.out.set⟩
    case measure=>simp [intOf];omega
  · obtain rfl:k=n:=by omega
    go_wp2
    go_ret
    exact ⟨rfl,hb⟩
set_option maxHeartbeats 1000000 in
theorem c10 (K:Int) (a:Option Addr) (b n cap:Nat) (w:World) (hK1:1≤K) (hK2:K≤50000000000000) (ha:n=0∨a=some ⟨b,0,none⟩) (hn:n≤1048576) (ho:Opn w b (n*2)):
 Calls Tryz.prog 10 #[.agg #[.slice a n cap],.int .i64 K] w fun e w'=>e=.returned (.int .i64 (K+2*(n:Int)))∧But b w w':=by
 have hB0:∀ o,Below w.heap.size w (w.alloc o):=fun o=>(Below.refl _ _).alloc (Nat.le_refl _) _
 go_enter Tryz.func10,Tryz.ntmps10
 go_wp2_with fail
 refine (c25 K a b n cap _ hK1 hK2 ha hn (ho.below (hB0 _))).mono ?_
 rintro e w1 ⟨rfl,hb1⟩
 have hB:But b w w1:=(But.of_below (hB0 _)).trans hb1
 go_wp2
 go_ret
 exact ⟨rfl,hB⟩
theorem c23 (x:L4) (w:World):
 Calls Tryz.prog 23 #[.agg #[.bool x.has,.string x.nm,.int .i64 x.cd,.string x.tx],.agg #[.bool x.has,.string x.nm,.int .i64 x.cd,.string x.tx]] w fun e w'=>e=.returned (.bool true)∧Below w.heap.size w w':=by
 go_enter Tryz.func23,Tryz.ntmps23
 go_wp2_with fail
 have hB:∀ o1 o2,Below w.heap.size w ((w.alloc o1).alloc o2):=fun o1 o2=>((Below.refl _ _).alloc (Nat.le_refl _) _).alloc (by simp) _
 refine (c39 x.cd x.tx _).mono ?_
 rintro e w1 ⟨rfl,hb1⟩
 go_wp2
 go_ret
 exact ⟨rfl,(hB _ _).trans (hb1.mono (by simp;omega))⟩
set_option maxHeartbeats 1000000 in
theorem c8 (a a':Option Addr) (cap cap':Nat) (is:List L4) (w:World) (hl:is.length≤1048576) (hat:LksAt w a is) (hat':LksAt w a' is):
 Calls Tryz.prog 8 #[.slice a is.length cap,.slice a' is.length cap'] w fun e w'=>e=.returned (.bool true)∧Below w.heap.size w w':=by
 obtain ⟨b,off,hc⟩:=lks_some hat
 have HC:Hid (is=[]∨(a=some ⟨b,off,none⟩∧b<w.heap.size∧∀ i,i<is.length→w.cell? ⟨b,off+i*4,none⟩=some (.bool (is.getD i l4z).has)∧w.cell? ⟨b,off+i*4+1,none⟩=some (.string (is.getD i l4z).nm)∧w.cell? ⟨b,off+i*4+2,none⟩=some (.int .i64 (is.getD i l4z).cd)∧w.cell? ⟨b,off+i*4+3,none⟩=some (.string (is.getD i l4z).tx))):=hc
 clear hc hat
 obtain ⟨b',off',hc'⟩:=lks_some hat'
 have HC':Hid (is=[]∨(a'=some ⟨b',off',none⟩∧b'<w.heap.size∧∀ i,i<is.length→w.cell? ⟨b',off'+i*4,none⟩=some (.bool (is.getD i l4z).has)∧w.cell? ⟨b',off'+i*4+1,none⟩=some (.string (is.getD i l4z).nm)∧w.cell? ⟨b',off'+i*4+2,none⟩=some (.int .i64 (is.getD i l4z).cd)∧w.cell? ⟨b',off'+i*4+3,none⟩=some (.string (is.getD i l4z).tx))):=hc'
 clear hc' hat'
 go_enter Tryz.func8,Tryz.ntmps8
 go_wp2_with fail
 go_loopw [5] (fun i wr=>∃ (k:Nat),k≤is.length∧i=.int .i64 k∧Below w.heap.size w wr) (fun i _=>is.length - (intOf i).toNat)
 case atStart=>exact ⟨0,Nat.zero_le _,rfl,Below.refl _ _⟩
 case round=>
  obtain ⟨k,hk,rfl,hb⟩:=hrel
  by_cases hlt:k<is.length
  · rcases HC.out with hss | ⟨ha,hbw,hcell⟩
    · rw [hss] at hlt;exact absurd hlt (Nat.not_lt_zero _)
    rcases HC'.out with hss | ⟨ha',hbw',hcell'⟩
    · rw [hss] at hlt;exact absurd hlt (Nat.not_lt_zero _)
    subst ha
    subst ha'
    have g0:=(hb.cell (p:=⟨b,off+k*4,none⟩) hbw).trans (hcell k hlt).1
    have g1:=(hb.cell (p:=⟨b,off+k*4+1,none⟩) hbw).trans (hcell k hlt).2.1
    have g2:=(hb.cell (p:=⟨b,off+k*4+2,none⟩) hbw).trans (hcell k hlt).2.2.1
    have g3:=(hb.cell (p:=⟨b,off+k*4+3,none⟩) hbw).trans (hcell k hlt).2.2.2
    have g0':=(hb.cell (p:=⟨b',off'+k*4,none⟩) hbw').trans (hcell' k hlt).1
    have g1':=(hb.cell (p:=⟨b',off'+k*4+1,none⟩) hbw').trans (hcell' k hlt).2.1
    have g2':=(hb.cell (p:=⟨b',off'+k*4+2,none⟩) hbw').trans (hcell' k hlt).2.2.1
    have g3':=(hb.cell (p:=⟨b',off'+k*4+3,none⟩) hbw').trans (hcell' k hlt).2.2.2
    generalize is.getD k l4z=x at*
    clear hcell hcell'
    go_wp2_with fail
    go_region_with (go_at_call 23;refine (c23 x _).mono ?_;rintro e w1 ⟨rfl,hb1⟩)
    all_goals go_wp2
    all_goals go_roundw
    all_goals first
     | exact ⟨k+1,by omega,by go_num,(hb.drew).trans (hb1.mono hb.size)⟩
     | (simp [intOf];omega)
  · go_wp2
    go_ret
    exact ⟨rfl,hb⟩
end Go.Proofs.YtmalddmgdjkgaaaGreatDoor.M
namespace Go.Proofs.YtmalddmgdjkgaaaGreatDoor
open Go.RowKit
open G (IsPT)
open G.T (F2 f2z treeOk FilesAt)
set_option maxRecDepth 100000
set_option linter.unusedVariables false
open Classical in
noncomputable def ow0 (kb mr mw:Nat) (pv:Value) (k:Nat):Option Ow:=if k=kb then some .kb else if k=mr then some .mr else if k=mw then some .mw else if pv.ownBlock=some k then some .pl else none
noncomputable def gh0 (kb mr mw:Nat) (pv:Value):Gh:=⟨[],[],.slice none 0 0,ow0 kb mr mw pv,[],[]⟩
theorem shp0 {w w':World} {a:Option Addr} {cap:Nat} {fs:List F2} {kb mr mw:Nat} {pv:Value} {ms:List G.M3} (hk:Cl w' kb 77 [.slice a fs.length cap,pv,.map (some mr),.map (some mw),.slice none 0 0]) (h1:w'.ownsMap Tryz.prog 9 tokR mr 0 (mapD [])) (h2:w'.ownsMap Tryz.prog 9 tokR mw 0 (mapD [])) (hp:w'.ownsRow w.heap.size 41 3 pv ms.length (G.mkCells ms)) (l1:w.heap.size≤kb) (l2:w.heap.size≤mr) (l3:w.heap.size≤mw) (hne:mr≠mw) (hb:Below w.heap.size w w'):Shp ⟨w,kb,mr,mw,a,cap,fs,pv,ms⟩ (gh0 kb mr mw pv) w':=by
 have n1:kb≠mr:=cells_ne_map (hk.cell 0) (mp_isMap h1).choose_spec.choose_spec
 have n2:kb≠mw:=cells_ne_map (hk.cell 0) (mp_isMap h2).choose_spec.choose_spec
 have hpl:∀ k,pv.ownBlock=some k→k≠kb∧k≠mr∧k≠mw∧w.heap.size≤k:=fun k e=>by
  obtain ⟨hge,cur,hcu⟩:=own_block hp e
  refine ⟨blk_ne hcu hk (by decide),fun c=>?_,fun c=>?_,hge⟩
  · obtain ⟨es,ck,hm⟩:=mp_isMap h1
    rw [c,hm] at hcu
    cases hcu
  obtain ⟨es,ck,hm⟩:=mp_isMap h2
  rw [c,hm] at hcu
  cases hcu
 exact {
  bl:=hb
  oge:=fun k o e=>by
   show w.heap.size≤k
   have e:ow0 kb mr mw pv k=some o:=e
   unfold ow0 at e
   split at e
   · omega
   split at e
   · omega
   split at e
   · omega
   split at e
   · exact (hpl k (by assumption)).2.2.2
   cases e
  kb:=hk
  okb:=by show ow0 kb mr mw pv kb=_;unfold ow0;rw [if_pos rfl]
  mr:=h1
  ar:=List.Pairwise.nil
  omr:=by show ow0 kb mr mw pv mr=_;unfold ow0;rw [if_neg n1.symm,if_pos rfl]
  mw:=h2
  aw:=List.Pairwise.nil
  omw:=by show ow0 kb mr mw pv mw=_;unfold ow0;rw [if_neg n2.symm,if_neg hne.symm,if_pos rfl]
  pl:=hp
  opl:=fun k e=>by
   obtain ⟨q1,q2,q3,_⟩:=hpl k e
   show ow0 kb mr mw pv k=_
   unfold ow0
   rw [if_neg q1,if_neg q2,if_neg q3,if_pos e]
  rd:=.inl ⟨rfl,rfl⟩
  ord:=fun k e=>by cases e
  its:=fun it h=>by cases h
  ru:=fun i x e=>by cases e
  oru:=fun i x e=>by cases e
  wr:=fun i x e=>by cases e
  owr:=fun i x e=>by cases e
  wlt:=fun i x e=>by cases e
  key:=fun i x e=>by cases e
  only:=fun n h=>absurd rfl h
  kw:=fun i x e=>by cases e
  kwo:=fun n h=>absurd rfl h
  inj:=fun i j x y e=>by cases e
  qlt:=fun it h=>by cases h }
theorem lgc0 (E:Env) (kb mr mw:Nat) (pv:Value):Lgc E (gh0 kb mr mw pv) none:=
 ⟨(fun i x e=>by cases e),(fun i j x y e=>by cases e),(fun i x e=>by cases e),(fun i x e=>by cases e),(fun i x e=>by cases e),(fun i x e=>by cases e),(fun i x e=>by cases e),List.nodup_nil,(fun i h=>by cases h),(fun i r b7 b5 h=>by cases h),(fun i x j e=>by cases e),(fun j y e=>by cases e)⟩
set_option maxHeartbeats 8000000 in
theorem c7y (a:Option Addr) (cap:Nat) (fs:List F2) (ms:List G.M3) (nm:ByteArray) (w:World) (hat:FilesAt w a fs) (ht:treeOk fs) (hp:IsPT fs ms) (hn:nameOk nm.data.toList=true) (hv:G.VarsZ w) (hsh:ShapesAt w) (hmx:MaxAt w) (hten:10≤w.heap.size):
 Calls Tryz.prog 7 #[.agg #[.slice a fs.length cap],.string nm] w fun e w'=>(∃ L,IsLk (envOf fs ms) nm L∧RowL w.heap.size L e w')∧Below w.heap.size w w':=by
 have HAT:=hidI hat
 have HT:=hidI ht
 have HP:=hidI hp
 have HV:=hidI hv
 have HSH:=hidI hsh
 have HMX:=hidI hmx
 have HNM:=hidI hn
 have hfl:fs.length≤1048576:=by have:=ht.1;omega
 have HF:=hidI (tree_le ht)
 have hns:nm.size≤20:=name_le hn
 have hB0:∀ o1,Below w.heap.size w (w.alloc o1):=fun o1=>(Below.refl _ _).alloc (Nat.le_refl _) _
 clear hat ht hp hv hsh hmx
 go_enter Tryz.func7,Tryz.ntmps7
 go_wp2_with fail
 refine (G.T.c19 a cap fs _ hfl HF.out (G.T.files_below HAT.out (hB0 _))).mono ?_
 rintro e w1 ⟨⟨b,rfl,hb⟩,hb1⟩
 obtain rfl:b=true:=hb.2 HT.out
 have hB1:Below w.heap.size w w1:=(hB0 _).trans (hb1.mono (by simp))
 have t1:w1.cell? ⟨w.heap.size,0,none⟩=some (.slice a fs.length cap):=(hb1.cell (p:=⟨w.heap.size,0,none⟩) (by simp)).trans (by simp [go_sem])
 clear hb hb1 hB0
 go_wp2_with fail
 refine (G.T.c20 nm w1 (by omega)).mono ?_
 rintro e w2 ⟨he,hw2⟩
 obtain rfl:=hw2
 have e':e=.returned (.bool true):=by rw [he];exact congrArg (fun b=>Ending.returned (.bool b)) hn
 subst e'
 clear he
 go_wp2_with fail
 refine (c21 a cap fs _ hfl HF.out (G.T.files_below HAT.out hB1) (HV.out.below hB1)).mono ?_
 rintro e w3 ⟨kb,mr,mw,pv,ms',rfl,hk,hm1,hm2,hrow,hpt,l1,l2,l3,hne,hb3⟩
 obtain rfl:=G.isPT_one HP.out hpt
 rw [show pt kb=.pointer (some ⟨kb,0,none⟩) from rfl]
 have HFK:Hid (Fok ⟨w2,kb,mr,mw,a,cap,fs,pv,ms⟩ (envOf fs ms)):=hidI ⟨by show 10≤w2.heap.size;have:=hB1.size;omega,shapes_base HSH.out hB1 hten,max_base HMX.out hB1 hten,G.T.files_below HAT.out hB1,HT.out,HP.out,rfl⟩
 have hs0:=shp0 (a:=a) (cap:=cap) (fs:=fs) hk hm1 hm2 hrow l1 l2 l3 hne hb3
 have HC:=hidI (c22 _ _ HFK.out _ nm w3 hs0 (lgc0 (envOf fs ms) kb mr mw pv) rfl HNM.out)
 have HB3b:Hid (Below w2.heap.size w2 w3):=hidI hb3
 clear hs0 hk hm1 hm2 hrow hpt l1 l2 l3 hne hb3 t1
 go_wp2_with fail
 refine HC.out.mono ?_
 rintro e w4 ⟨s0,b1,s2,s3,s4,la,lc,L,rc,rt,wt,rfl,hlk,hrow,hb4⟩
 have HLK:=hidI hlk
 have hb4':Below w2.heap.size w3 w4:=hb4
 have hrow':w4.ownsRow w2.heap.size 59 4 (.slice la L.length lc) L.length (lkCells L):=hrow
 have HROW:=hidI hrow'
 have hB24:Below w2.heap.size w2 w4:=HB3b.out.trans hb4'
 have hB4:Below w.heap.size w w4:=hB1.trans (hB24.mono hB1.size)
 have hle:=hB1.size
 clear hlk hrow hrow' hb4 hb4' hB24 HC HB3b
 go_upto_region 4 with (refine wl_stN rfl 52 _ _ rfl (B:=w4.heap.size) (j:=0) rfl (vs:=[.string s0,.bool b1,.string s2,.string s3,.string s4,.slice la L.length lc,.int .i64 rc,.string rt]) rfl (cl_new w4 [.string ⟨#[]⟩,.bool false,.string ⟨#[]⟩,.string ⟨#[]⟩,.string ⟨#[]⟩,.slice none 0 0,.int .i64 0,.string ⟨#[]⟩] 52) (by simp) (by intro v hv;simp at hv;rcases hv with rfl | rfl | rfl | rfl | rfl | rfl | rfl | rfl <;> rfl) (by kernel_rfl) ?_;intro w5 hc5 ho5)
 have hb5:Below w4.heap.size w4 w5:=((Below.refl _ _).alloc (Nat.le_refl _) _).trans (ho5.below (Nat.le_refl _))
 have hc5':Cl w5 w4.heap.size 52 [.string s0,.bool b1,.string s2,.string s3,.string s4,.slice la L.length lc,.int .i64 rc,.string rt]:=hc5
 have d5:w5.cell? ⟨w4.heap.size,5,none⟩=some (.slice la L.length lc):=hc5'.cell 5
 have HR5:=hidI (owns_mono (ownsRow_below HROW.out hb5) hle)
 have HB5:=hidI (hB4.trans (hb5.mono hB4.size))
 clear hc5 hc5' ho5 hb5 hB4
 go_wp2
 go_ret
 exact ⟨⟨L,HLK.out,_,rfl,HR5.out⟩,HB5.out⟩
set_option maxHeartbeats 4000000 in
theorem c7n (a:Option Addr) (cap:Nat) (fs:List F2) (nm:ByteArray) (w:World) (hl:fs.length≤1048576) (hs:∀ i,(fs.getD i f2z).le 1048576) (hat:FilesAt w a fs) (hns:nm.size≤1048576) (hno:¬ treeOk fs∨nameOk nm.data.toList=false):
 Calls Tryz.prog 7 #[.agg #[.slice a fs.length cap],.string nm] w fun e w'=>RowL w.heap.size [] e w'∧Below w.heap.size w w':=by
 have HAT:=hidI hat
 have HF:=hidI hs
 have HN:=hidI hno
 have hB0:∀ o1,Below w.heap.size w (w.alloc o1):=fun o1=>(Below.refl _ _).alloc (Nat.le_refl _) _
 clear hat hs hno
 go_enter Tryz.func7,Tryz.ntmps7
 go_wp2_with fail
 refine (G.T.c19 a cap fs _ hl HF.out (G.T.files_below HAT.out (hB0 _))).mono ?_
 rintro e w1 ⟨⟨b,rfl,hb⟩,hb1⟩
 have HE:Hid (RowL w.heap.size [] (.returned (.slice none 0 0)) w1∧Below w.heap.size w w1):=⟨⟨_,rfl,World.ownsRow_nil _ _ _ _⟩,(hB0 _).trans (hb1.mono (by simp))⟩
 have HBT:=hidI hb
 clear hb hb1 hB0
 cases b
 · go_wp2
   go_ret
   exact HE.out
 have hn:nameOk nm.data.toList=false:=by
  rcases HN.out with h | h
  · exact absurd (HBT.out.1 rfl) h
  exact h
 go_wp2_with fail
 refine (G.T.c20 nm w1 (by omega)).mono ?_
 rintro e w2 ⟨he,rfl⟩
 have e':e=.returned (.bool false):=by rw [he];exact congrArg (fun b=>Ending.returned (.bool b)) hn
 subst e'
 clear he
 go_wp2
 go_ret
 exact HE.out
theorem isPT_ex (fs:List F2):∃ ms,IsPT fs ms:=by
 by_cases ht:treeOk fs
 · by_cases hf:G.Free fs G.planA
   · exact ⟨[],.inr (.inl ⟨ht,hf,rfl⟩)⟩
   obtain ⟨i,hi,hn⟩:∃ i,i<fs.length∧(fs.getD i f2z).nm=G.planA:=Classical.byContradiction fun h=>hf fun i hi e=>h ⟨i,hi,e⟩
   obtain ⟨ks,ok,hp⟩:∃ ks ok,G.IsPlan (fs.getD i f2z).tx.data.toList ks ok:=by
    by_cases h:∃ js,G.planOk js=true∧js.flatMap G.makeL=(fs.getD i f2z).tx.data.toList∧(fs.getD i f2z).tx.data.toList.length≤300
    · obtain ⟨js,h1,h2,h3⟩:=h
      exact ⟨js,true,fun _=>⟨h1,h2,h3⟩,fun c=>by cases c⟩
    exact ⟨[],false,(fun c=>by cases c),fun _=>⟨rfl,fun js h1 h2=>Nat.lt_of_not_le fun h3=>h ⟨js,h1,h2,h3⟩⟩⟩
   by_cases h:ok=true∧G.FreeAll fs ks
   · exact ⟨ks,.inr (.inr ⟨ht,i,hi,hn,ks,ok,hp,.inl ⟨h.1,h.2,rfl⟩⟩)⟩
   exact ⟨[],.inr (.inr ⟨ht,i,hi,hn,ks,ok,hp,.inr ⟨h,rfl⟩⟩)⟩
 exact ⟨[],.inl ⟨ht,rfl⟩⟩
theorem alike (fs:List F2) (nm:ByteArray) (hl:fs.length≤1048576) (hs:∀ i,(fs.getD i f2z).le 1048576) (hns:nm.size≤1048576):∃ L:List M.L4,L.length≤15∧
 (∀ (a:Option Addr) (cap:Nat) (w:World),FilesAt w a fs→Calls Tryz.prog 5 #[.agg #[.slice a fs.length cap],.string nm] w fun e w'=>RowL w.heap.size L e w'∧Below w.heap.size w w')∧
 (∀ (a:Option Addr) (cap:Nat) (w:World),FilesAt w a fs→G.VarsZ w→ShapesAt w→MaxAt w→10≤w.heap.size→Calls Tryz.prog 7 #[.agg #[.slice a fs.length cap],.string nm] w fun e w'=>RowL w.heap.size L e w'∧Below w.heap.size w w'):=by
 by_cases h:treeOk fs∧nameOk nm.data.toList=true
 · obtain ⟨ms,hp⟩:=isPT_ex fs
   have hE:=envOk h.1 hp
   obtain ⟨L,hl15,hL⟩:∃ L,L.length≤15∧∀ L',IsLk (envOf fs ms) nm L'→L'=L:=by
    by_cases hx:∃ L,IsLk (envOf fs ms) nm L
    · obtain ⟨L,hx⟩:=hx
      exact ⟨L,isLk_len hE hx,fun L' h'=>isLk_one hE h' hx⟩
    exact ⟨[],by simp,fun L' h'=>absurd ⟨L',h'⟩ hx⟩
   exact ⟨L,hl15,fun a cap w hat=>(c5y a cap fs ms nm w hat h.1 hp h.2).mono (fun e w' ⟨⟨L',h1,h2⟩,h3⟩=>by obtain rfl:=hL L' h1;exact ⟨h2,h3⟩),fun a cap w hat hv hsh hmx hten=>(c7y a cap fs ms nm w hat h.1 hp h.2 hv hsh hmx hten).mono (fun e w' ⟨⟨L',h1,h2⟩,h3⟩=>by obtain rfl:=hL L' h1;exact ⟨h2,h3⟩)⟩
 have hno:¬ treeOk fs∨nameOk nm.data.toList=false:=by
  by_cases ht:treeOk fs
  · exact .inr (by cases hn:nameOk nm.data.toList;rfl;exact absurd ⟨ht,hn⟩ h)
  exact .inl ht
 exact ⟨[],by simp,fun a cap w hat=>c5n a cap fs nm w hl hs hat hns hno,fun a cap w hat _ _ _ _=>c7n a cap fs nm w hl hs hat hns hno⟩
theorem unf_below {w w':World} {g:Nat} (h:G.T.Unf w g) (hb:Below w.heap.size w w'):G.T.Unf w' g:=⟨Nat.lt_of_lt_of_le h.1 hb.size,fun j=>(hb.frozen (p:=⟨g,j,none⟩) h.1).trans (h.2 j)⟩
theorem files_opn {w:World} {g:Nat} {fs:List F2} (h:FilesAt w (some ⟨g,0,none⟩) fs) (hu:G.T.Unf w g):M.Opn w g (fs.length*2):=by
 refine ⟨hu.1,fun j hj=>?_,hu.2⟩
 rcases h with h | ⟨b,off,h1,h2,h3⟩
 · rw [h] at hj;simp at hj
 injection h1 with h1
 injection h1 with h1 h4
 subst h1 h4
 have h5:=h3 (j / 2) (by omega)
 rcases (by omega:j=0+j / 2*2∨j=0+j / 2*2+1) with e | e
 · rw [e];exact ⟨_,h5.1⟩
 rw [e];exact ⟨_,h5.2⟩
def Mkd (v:Value) (n:Nat) (w:World):Prop:=∃ a b c,v=.slice a n c∧(n=0∨a=some ⟨b,0,none⟩)∧(n=0∨b<w.heap.size)∧M.MarksAt 1 w b n
theorem Mkd.below {v:Value} {n:Nat} {w w':World} (h:Mkd v n w) (hb:Below w.heap.size w w'):Mkd v n w':=by
 obtain ⟨a,b,c,h1,h2,h3,h4⟩:=h
 refine ⟨a,b,c,h1,h2,?_,?_⟩
 · rcases h3 with h | h
   · exact .inl h
   exact .inr (Nat.lt_of_lt_of_le h hb.size)
 rcases h3 with h | h
 · subst h;exact fun j hj=>absurd hj (Nat.not_lt_zero _)
 exact M.marks_below h4 h hb
theorem mk12 {v:Value} {n:Nat} {w:World} (h:Mkd v n w) (hn:n≤15):Calls Tryz.prog 12 #[v,.int .i64 1] w fun e w'=>e=.returned (.int .i64 (1+4*(n:Int)))∧Below w.heap.size w w':=by
 obtain ⟨a,b,c,rfl,h1,h2,h3⟩:=h
 exact M.c12 1 a b n c w (by decide) (by decide) h1 (by omega) h2 h3
theorem mk11 {base:Nat} {v:Value} {ls:List M.L4} {w:World} (h:w.ownsRow base 59 4 v ls.length (lkCells ls)) (hl:ls.length≤15) (hb:base≤w.heap.size):Calls Tryz.prog 11 #[v,.int .i64 1] w fun e w'=>e=.returned (.int .i64 (1+4*(ls.length:Int)))∧Mkd v ls.length w'∧Below base w w':=by
 rcases h.2 with ⟨hv,h0⟩ | ⟨g,cap,cur,hv,_⟩
 · subst hv
   obtain rfl:=List.length_eq_zero_iff.1 h0
   refine (M.c11 1 none w.heap.size 0 0 w (by decide) (by decide) (.inl rfl) (by omega) (.inl rfl)).mono ?_
   rintro e w' ⟨rfl,h1,h2⟩
   exact ⟨rfl,⟨none,w.heap.size,0,rfl,.inl rfl,.inl rfl,h2⟩,h1.below hb hb⟩
 subst hv
 have hlt:=h.lt g rfl
 refine (M.c11 1 (some ⟨g,0,none⟩) g ls.length cap w (by decide) (by decide) (.inr rfl) (by omega) (.inr ⟨hlt.2,fun j hj=>⟨_,(h.cellAt j hj).trans (List.getElem?_eq_getElem (by rw [lkCells_len];exact hj))⟩,fun j=>h.frozenAt j⟩)).mono ?_
 rintro e w' ⟨rfl,h1,h2⟩
 exact ⟨rfl,⟨_,g,cap,rfl,.inr rfl,.inr (Nat.lt_of_lt_of_le hlt.2 h1.size),h2⟩,h1.below hlt.1 hb⟩
end Go.Proofs.YtmalddmgdjkgaaaGreatDoor
namespace Go.Proofs.YtmalddmgdjkgaaaGreatDoor
open Go.RowKit
open G (IsPT)
open G.T (F2 f2z treeOk FilesAt)
set_option maxRecDepth 100000
set_option linter.unusedVariables false
set_option maxHeartbeats 8000000 in
theorem c3 (a:Option Addr) (cap:Nat) (fs:List F2) (nm:ByteArray) (w:World) (hs:∀ i,(fs.getD i f2z).le 9223372036854775807) (hl:fs.length≤9223372036854775807) (hat:FilesAt w a fs) (hv:G.VarsZ w) (hsh:ShapesAt w) (hmx:MaxAt w) (hten:10≤w.heap.size):
 Calls Tryz.prog 3 #[.agg #[.slice a fs.length cap],.string nm] w fun e w'=>e=.returned (.bool true)∧Below w.heap.size w w':=by
 have HV:=hidI hv
 have HSH:=hidI hsh
 have HMX:=hidI hmx
 have HAT:=hidI hat
 have hB0:Below w.heap.size w (w.alloc (.cells #[.slice a fs.length cap] 24)):=(Below.refl _ _).alloc (Nat.le_refl _) _
 have h4:=G.T.c4 a cap fs _ hs hl (G.T.files_below hat hB0)
 clear hv hsh hmx hat
 by_cases hnl:nm.size≤1048576
 · go_enter Tryz.func3,Tryz.ntmps3
   go_wp2_with fail
   refine h4.mono ?_
   rintro e w1 ⟨⟨r,rfl,hr⟩,hb1⟩
   have hx1:Below (w.heap.size+1) (w.alloc (.cells #[.slice a fs.length cap] 24)) w1:=by have h:=hb1;simp at h;exact h
   have hB1:Below w.heap.size w w1:=hB0.trans (hx1.mono (by omega))
   have hz1:w.heap.size+1≤w1.heap.size:=by have:=hx1.size;simpa using this
   have t1:w1.cell? ⟨w.heap.size,0,none⟩=some (.slice a fs.length cap):=(hx1.cell (p:=⟨w.heap.size,0,none⟩) (by simp)).trans (by simp [go_sem])
   clear hb1 h4 hx1
   by_cases h0:0≤r
   · obtain ⟨hl',hs',hr'⟩:=hr h0
     obtain ⟨L,hL15,hS5,hS7⟩:=alike fs nm hl' hs' hnl
     have HS5:=hidI hS5
     have HS7:=hidI hS7
     clear hr hs hl hs' hS5 hS7
     have h6:=G.T.c6 a cap fs w1 hl' (G.T.files_below HAT.out hB1)
     go_wp2_with fail
     refine h6.mono ?_
     rintro e wa ⟨⟨ga,_,rfl,hatA,_⟩,hba⟩
     have hza:w1.heap.size≤wa.heap.size:=hba.size
     have hBa:Below w.heap.size w wa:=hB1.trans (hba.mono hB1.size)
     have hqa:w.heap.size<w1.heap.size:=by omega
     have ta:=(hba.cell (p:=⟨w.heap.size,0,none⟩) hqa).trans t1
     have h5:=HS5.out (some ⟨ga,0,none⟩) fs.length wa hatA
     clear h6 hba
     go_wp2_with fail
     refine h5.mono ?_
     rintro e wb ⟨⟨v5,rfl,hr5⟩,hbb⟩
     obtain ⟨a5,q5,hv5,_⟩:=row_lks hr5
     subst hv5
     have K5:Hid (∀ k,(Value.slice a5 L.length q5).ownBlock=some k→k<wb.heap.size):=fun k e=>(hr5.lt k e).2
     have hBb:Below w.heap.size w wb:=hBa.trans (hbb.mono hBa.size)
     have hqb:w.heap.size<wa.heap.size:=by omega
     have tb:=(hbb.cell (p:=⟨w.heap.size,0,none⟩) hqb).trans ta
     have hzb:wa.heap.size≤wb.heap.size:=hbb.size
     have R5:=hidI hr5
     clear h5 hbb ta t1 hatA hr5
     have h6:=G.T.c6 a cap fs wb hl' (G.T.files_below HAT.out hBb)
     go_wp2_with fail
     refine h6.mono ?_
     rintro e wc ⟨⟨gx,hgx,rfl,hatC,huC⟩,hbc⟩
     have hzc:wb.heap.size≤wc.heap.size:=hbc.size
     have hgc:gx<wc.heap.size:=huC.1
     have hBc:Below w.heap.size w wc:=hBb.trans (hbc.mono hBb.size)
     have hqd:w.heap.size<wb.heap.size:=by omega
     have tc:=(hbc.cell (p:=⟨w.heap.size,0,none⟩) hqd).trans tb
     have R5c:=hidI (ownsRow_below R5.out hbc)
     clear h6 hbc tb R5
     go_upto_region 9 with fail
     obtain ⟨wc1,hwc1⟩:∃ u:World,u=wc.alloc (.cells #[.slice (some ⟨gx,0,none⟩) fs.length fs.length] 30):=⟨_,rfl⟩
     rw [← hwc1]
     have hbc1:Below wc.heap.size wc wc1:=by rw [hwc1];exact (Below.refl _ _).alloc (Nat.le_refl _) _
     have C7:Hid (Cl wc1 wc.heap.size 30 [.slice (some ⟨gx,0,none⟩) fs.length fs.length]):=by show Cl _ _ _ _;rw [hwc1];exact cl_new wc _ 30
     have hBc1:Below w.heap.size w wc1:=hBc.trans (hbc1.mono hBc.size)
     have hqe:w.heap.size<wc.heap.size:=by omega
     have tc1:=(hbc1.cell (p:=⟨w.heap.size,0,none⟩) hqe).trans tc
     have x1:wc1.cell? ⟨wc.heap.size,0,none⟩=some (.slice (some ⟨gx,0,none⟩) fs.length fs.length):=C7.out.cell 0
     have R5d:=hidI (ownsRow_below R5c.out hbc1)
     have HATC:=hidI (G.T.files_below hatC hbc1)
     have HUC:=hidI (unf_below huC hbc1)
     have hzc1:wc.heap.size<wc1.heap.size:=C7.out.lt
     clear hwc1 hbc1 tc hatC huC R5c C7
     have h7:=HS7.out (some ⟨gx,0,none⟩) fs.length wc1 HATC.out (HV.out.below hBc1) (shapes_base HSH.out hBc1 hten) (max_base HMX.out hBc1 hten) (by omega)
     go_wp2_with fail
     refine h7.mono ?_
     rintro e wd ⟨⟨v7,rfl,hr7⟩,hbd⟩
     obtain ⟨a7,q7,hv7,_⟩:=row_lks hr7
     subst hv7
     have hBd:Below w.heap.size w wd:=hBc1.trans (hbd.mono hBc1.size)
     have hqf:w.heap.size<wc1.heap.size:=by omega
     have td:=(hbd.cell (p:=⟨w.heap.size,0,none⟩) hqf).trans tc1
     have xd:=(hbd.cell (p:=⟨wc.heap.size,0,none⟩) hzc1).trans x1
     have R5e:=hidI (ownsRow_below R5d.out hbd)
     have R7:=hidI hr7
     have HATD:=hidI (G.T.files_below HATC.out hbd)
     have HUD:=hidI (unf_below HUC.out hbd)
     have hzd:wc1.heap.size≤wd.heap.size:=hbd.size
     clear h7 hbd tc1 x1 R5d HATC HUC hr7
     have EQ:Hid (∀ (u:World) (aa:Option Addr) (qq bb:Nat),u.ownsRow bb 59 4 (.slice aa L.length qq) L.length (lkCells L)→u.ownsRow wa.heap.size 59 4 (.slice a5 L.length q5) L.length (lkCells L)→Calls Tryz.prog 8 #[.slice aa L.length qq,.slice a5 L.length q5] u fun e w'=>e=.returned (.bool true)∧Below u.heap.size u w'):=fun u aa qq bb h1 h2=>by
      obtain ⟨x1,y1,e1,k1⟩:=row_lks h1
      obtain ⟨x2,y2,e2,k2⟩:=row_lks h2
      injection e1 with e1 _ _
      injection e2 with e2 _ _
      subst e1 e2
      exact M.c8 _ _ qq q5 L u (by omega) k1 k2
     have h8:=EQ.out wd a7 q7 _ R7.out R5e.out
     go_wp2_with fail
     refine h8.mono ?_
     rintro e wf ⟨rfl,hbf⟩
     have hBe:Below w.heap.size w wf:=hBd.trans (hbf.mono hBd.size)
     have hqi:w.heap.size<wd.heap.size:=by omega
     have hqj:wc.heap.size<wd.heap.size:=by omega
     have te:=(hbf.cell (p:=⟨w.heap.size,0,none⟩) hqi).trans td
     have xe:=(hbf.cell (p:=⟨wc.heap.size,0,none⟩) hqj).trans xd
     have HATX:=hidI (G.T.files_below HATD.out hbf)
     have HUX:=hidI (unf_below HUD.out hbf)
     have R5f:=hidI (ownsRow_below R5e.out hbf)
     have R7f:=hidI (ownsRow_below R7.out hbf)
     have hzf:wd.heap.size≤wf.heap.size:=hbf.size
     have hq0:w.heap.size<wf.heap.size:=by omega
     have hq1:wc.heap.size<wf.heap.size:=by omega
     clear h8 hbf td xd HATD HUD R5e R7
     go_upto_region 12 with fail
     refine wp_region_held_drew (S:=fun u=>u.cell? ⟨w.heap.size,0,none⟩=some (.slice a fs.length cap)∧u.cell? ⟨wc.heap.size,0,none⟩=some (.slice (some ⟨gx,0,none⟩) fs.length fs.length)) (by kernel_rfl) ?_ (fun hHeld=>?_)
     · exact ⟨te,xe⟩
     obtain ⟨y0,hy0⟩:∃ x:World,x=wf.drew:=⟨_,rfl⟩
     rw [← hy0] at hHeld ⊢
     have Ly:Below wf.heap.size wf y0:=by rw [hy0];exact (Below.refl _ wf).drew
     clear hy0
     refine tq 0 hHeld ?_ (v:=?_) (hv:=?e)
     case e=>intro wq hSw;(try dsimp only at hSw);obtain ⟨s1,s2⟩:=hSw;go_simp;try with_reducible rfl
     try simp only [qq]
     refine tq 1 hHeld ?_ (v:=?_) (hv:=?e)
     case e=>intro wq hSw;(try dsimp only at hSw);obtain ⟨s1,s2⟩:=hSw;go_simp;try with_reducible rfl
     try simp only [qq]
     refine rq 2 (fun K hK=>?_)
     go_simp
     refine (G.T.c6 a cap fs y0 hl' (G.T.files_below HAT.out (hBe.trans (Ly.mono hBe.size)))).mono ?_
     rintro e y1 ⟨⟨g3,_,rfl,hat3,_⟩,hb1⟩
     have L1:Below wf.heap.size wf y1:=Ly.trans (hb1.mono Ly.size)
     go_simp
     clear hHeld
     refine hK.out _ _ ?_ (fun hHeld=>?_)
     · exact ⟨(L1.cell (p:=⟨w.heap.size,0,none⟩) hq0).trans te,(L1.cell (p:=⟨wc.heap.size,0,none⟩) hq1).trans xe⟩
     clear hK K
     try simp only [qq]
     refine rq 3 (fun K hK=>?_)
     go_simp
     refine (G.T.c9 (some ⟨gx,0,none⟩) (some ⟨g3,0,none⟩) fs.length fs.length fs y1 hl' (G.T.files_below HATX.out L1) hat3).mono ?_
     rintro e y2 ⟨rfl,hb2⟩
     have L2:Below wf.heap.size wf y2:=L1.trans (hb2.mono L1.size)
     go_simp
     clear hHeld
     refine hK.out _ _ ?_ (fun hHeld=>?_)
     · exact ⟨(L2.cell (p:=⟨w.heap.size,0,none⟩) hq0).trans te,(L2.cell (p:=⟨wc.heap.size,0,none⟩) hq1).trans xe⟩
     clear hK K
     try simp only [qq]
     refine tq 4 hHeld ?_
     try simp only [qq]
     refine wpAnyH_done (by kernel_rfl) ?_ _
     have hBy:Below w.heap.size w y2:=hBe.trans (L2.mono hBe.size)
     have ty:=(L2.cell (p:=⟨w.heap.size,0,none⟩) hq0).trans te
     have xy:=(L2.cell (p:=⟨wc.heap.size,0,none⟩) hq1).trans xe
     have hzy:wf.heap.size≤y2.heap.size:=L2.size
     have R5y:=hidI (ownsRow_below R5f.out L2)
     have R7y:=hidI (ownsRow_below R7f.out L2)
     have h10:=M.c10 1 (some ⟨gx,0,none⟩) gx fs.length fs.length y2 (by decide) (by decide) (.inr rfl) hl' (files_opn (G.T.files_below HATX.out L2) (unf_below HUX.out L2))
     clear hHeld hb1 hb2 hat3 L1 L2 Ly te xe HATX HUX R5f R7f
     go_wp2_with fail
     refine h10.mono ?_
     rintro e wg ⟨rfl,hbg⟩
     have hgw:w.heap.size<gx:=by omega
     have tg:=(hbg.cell (p:=⟨w.heap.size,0,none⟩) (by show w.heap.size<_;omega) (by show w.heap.size≠gx;omega)).trans ty
     have hBg:Below w.heap.size w wg:=hBy.trans (hbg.below (by omega) hBy.size)
     have R5g:=hidI (owns_but R5y.out hbg (fun e=>by have:=K5.out _ e;omega))
     have R7g:=hidI (owns_but R7y.out hbg (fun e=>by have:=(R7y.out.lt _ e).1;omega))
     have hzg:y2.heap.size≤wg.heap.size:=hbg.size
     have hk0:¬ (1+2*(fs.length:Int)<0):=by omega
     generalize 1+2*(fs.length:Int)=kx at*
     clear h10 hbg ty xy R5y R7y
     have h8:=EQ.out wg a7 q7 _ R7g.out R5g.out
     go_wp2_with fail
     refine h8.mono ?_
     rintro e wh ⟨rfl,hbh⟩
     have hBh:Below w.heap.size w wh:=hBg.trans (hbh.mono hBg.size)
     have hqk:w.heap.size<wg.heap.size:=by omega
     have th:=(hbh.cell (p:=⟨w.heap.size,0,none⟩) hqk).trans tg
     have R5h:=hidI (ownsRow_below R5g.out hbh)
     have R7h:=hidI (ownsRow_below R7g.out hbh)
     have hzh:wg.heap.size≤wh.heap.size:=hbh.size
     clear h8 hbh tg R5g R7g
     have h11:=mk11 R7h.out hL15 (by omega)
     have hm0:¬ (1+4*(L.length:Int)<0):=by omega
     have HM12:Hid (∀ (u:World),Mkd (.slice a7 L.length q7) L.length u→Calls Tryz.prog 12 #[.slice a7 L.length q7,.int .i64 1] u fun e w'=>e=.returned (.int .i64 (1+4*(L.length:Int)))∧Below u.heap.size u w'):=fun u h=>mk12 h hL15
     generalize 1+4*(L.length:Int)=mx at*
     go_wp2_with fail
     refine h11.mono ?_
     rintro e wi ⟨rfl,hmi,hbi⟩
     have hzi:wh.heap.size≤wi.heap.size:=hbi.size
     have hBi:Below w.heap.size w wi:=hBh.trans (hbi.mono (by omega))
     have ti:=(hbi.cell (p:=⟨w.heap.size,0,none⟩) hqf).trans th
     have R5i:=hidI (ownsRow_keep R5h.out fun k e=>hbi.block k (by have:=K5.out _ e;omega))
     have MI:=hidI hmi
     have h12:=HM12.out wi hmi
     clear h11 hbi hmi th R5h R7h
     go_wp2_with fail
     refine h12.mono ?_
     rintro e wj ⟨rfl,hbj⟩
     have hzj:wi.heap.size≤wj.heap.size:=hbj.size
     have hBj:Below w.heap.size w wj:=hBi.trans (hbj.mono hBi.size)
     have hql:w.heap.size<wi.heap.size:=by omega
     have tj:=(hbj.cell (p:=⟨w.heap.size,0,none⟩) hql).trans ti
     have R5j:=hidI (ownsRow_below R5i.out hbj)
     have MJ:=hidI (MI.out.below hbj)
     clear h12 hbj ti R5i MI
     have h6:=G.T.c6 a cap fs wj hl' (G.T.files_below HAT.out hBj)
     go_wp2_with fail
     refine h6.mono ?_
     rintro e wk ⟨⟨gk,_,rfl,hatK,_⟩,hbk⟩
     have hzk:wj.heap.size≤wk.heap.size:=hbk.size
     have hBk:Below w.heap.size w wk:=hBj.trans (hbk.mono hBj.size)
     have R5k:=hidI (ownsRow_below R5j.out hbk)
     have MK:=hidI (MJ.out.below hbk)
     have h7:=HS7.out (some ⟨gk,0,none⟩) fs.length wk hatK (HV.out.below hBk) (shapes_base HSH.out hBk hten) (max_base HMX.out hBk hten) (by omega)
     clear h6 hbk tj R5j MJ hatK
     go_wp2_with fail
     refine h7.mono ?_
     rintro e wl ⟨⟨v8,rfl,hr8⟩,hbl⟩
     obtain ⟨a8,q8,hv8,_⟩:=row_lks hr8
     subst hv8
     have hBl:Below w.heap.size w wl:=hBk.trans (hbl.mono hBk.size)
     have h8:=EQ.out wl a8 q8 _ hr8 (ownsRow_below R5k.out hbl)
     have ML:=hidI (MK.out.below hbl)
     clear h7 hbl R5k MK hr8
     go_wp2_with fail
     refine h8.mono ?_
     rintro e wm ⟨rfl,hbm⟩
     have hBm:Below w.heap.size w wm:=hBl.trans (hbm.mono hBl.size)
     have h12:=HM12.out wm (ML.out.below hbm)
     clear h8 hbm ML
     go_wp2_with fail
     refine h12.mono ?_
     rintro e wn ⟨rfl,hbn⟩
     have hBn:Below w.heap.size w wn:=hBm.trans (hbn.mono hBm.size)
     clear h12 hbn
     go_wp2
     go_ret
     exact ⟨rfl,hBn⟩
   go_wp2
   go_ret
   exact ⟨rfl,hB1⟩
 clear h4
 go_enter Tryz.func3,Tryz.ntmps3
 go_wp2
 go_ret
 exact ⟨rfl,hB0⟩
end Go.Proofs.YtmalddmgdjkgaaaGreatDoor
