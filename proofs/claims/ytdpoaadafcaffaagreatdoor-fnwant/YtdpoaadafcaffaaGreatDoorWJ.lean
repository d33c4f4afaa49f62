import Derived.Test.YtdpoaadafcaffaaGreatDoorWH
set_option linter.unusedVariables false
set_option maxHeartbeats 8000000
set_option maxRecDepth 100000
namespace Go.Proofs.YtdpoaadafcaffaaGreatDoor
open Proofs.Tryz
open Go.RowKit
open G.T (F2 L6 U3 U7)
def SR (n:Nat) (xs:List Value):Prop:=xs.length=n*2/\∀ v∈xs,Fp 4000 v=true
theorem J8 {N:Nat} {v:Value}:Fp N v=true↔∃ s:ByteArray,v=.string s/\s.size<=N:=by
 unfold Fp;constructor
 · intro h
   split at h
   · rename_i z;exact ⟨z,rfl,by simpa using h⟩
   cases h
 rintro ⟨s,rfl,h⟩;simpa using h
theorem SR.get {n j:Nat} {xs:List Value} (h:SR n xs) (hj:j<n*2):∃ s:ByteArray,xs[j]?=some (.string s)/\s.size<=4000:=by
 have hl:j<xs.length:=by rw [h.1];exact hj
 obtain ⟨s,e,hs⟩:=J8.1 (h.2 _ (List.getElem_mem hl));exact ⟨s,by rw [List.getElem?_eq_getElem hl,e],hs⟩
theorem SR.set {n:Nat} {xs:List Value} (h:SR n xs) (j:Nat) {s:ByteArray} (hs:s.size<=4000):SR n (xs.set j (.string s)):=
 ⟨by rw [List.length_set];exact h.1,fun v hv=>by
  rcases List.mem_or_eq_of_mem_set hv with h1 | h1
  · exact h.2 v h1
  rw [h1];exact J8.2 ⟨s,rfl,hs⟩⟩
theorem SR.app {n:Nat} {xs:List Value} (h:SR n xs) {a b:ByteArray} (ha:a.size<=4000) (hb:b.size<=4000):SR (n+1) (xs++[.string a,.string b]):=
 ⟨by have:=h.1;simp;omega,fun v hv=>by
  rcases List.mem_append.1 hv with h1 | h1
  · exact h.2 v h1
  simp at h1;rcases h1 with rfl | rfl
  · exact J8.2 ⟨_,rfl,ha⟩
  exact J8.2 ⟨_,rfl,hb⟩⟩
theorem SR.fi:∀ {n:Nat} {xs:List Value},SR n xs->∃ gs:List F2,gs.length=n/\xs=Xd gs/\∀ x∈gs,x.le 4000
 | 0,xs,h=>⟨[],rfl,by simpa [Xd] using h.1,fun x h=>nomatch h⟩
 | n+1,[],h=>by simp [SR] at h
 | n+1,[_],h=>by have:=h.1;simp at this;omega
 | n+1,x::y::r,h=>by
  obtain ⟨a,rfl,ha⟩:=J8.1 (h.2 x U0);obtain ⟨b,rfl,hb⟩:=J8.1 (h.2 y U0);obtain ⟨gs,h1,h2,h3⟩:=SR.fi (n:=n) (xs:=r) ⟨by have:=h.1;simp at this;omega,fun v hv=>h.2 v (by simp [hv])⟩;exact ⟨⟨a,b⟩::gs,by simp [h1],by rw [h2];rfl,fun x hx=>by rcases List.mem_cons.1 hx with rfl | hx;exact ⟨ha,hb⟩;exact h3 x hx⟩
theorem wH {gs:List F2} (h:∀ x∈gs,x.le 4000):SR gs.length (Xd gs):=⟨Tp gs,fun v hv=>by
 obtain ⟨x,hx,h1⟩:=List.mem_flatMap.1 hv;simp at h1;rcases h1 with rfl | rfl
 · exact J8.2 ⟨_,rfl,(h x hx).1⟩
 exact J8.2 ⟨_,rfl,(h x hx).2⟩⟩
theorem NF {w u:World} {a:Option Addr} {cap:Nat} {fs:List F2} (h:U3 w a fs) (hb:Below w.heap.size w u):Src u (.slice a fs.length cap) 2 fs.length (Xd fs):=by
 rcases h with h | ⟨b,off,h1,h2,h3⟩
 · subst h
   cases a with
   | none=>exact .inl ⟨⟨cap,rfl⟩,rfl,rfl⟩
   | some ad=>exact .inr ⟨ad,cap,rfl,rfl,fun j v e=>by simp [Xd] at e⟩
 subst h1;refine (.inr ⟨⟨b,off,none⟩,cap,rfl,Tp fs,fun j v e=>?_⟩);have hj:j<fs.length*2:=by have:=(List.getElem?_eq_some_iff.1 e).1;rwa [Tp] at this
 rw [Addr.add_lit,hb.cell h2];obtain ⟨k1,k2⟩:=h3 (j / 2) O0;rcases Nat.mod_two_eq_zero_or_one j with hm | hm
 · have e1:j=j / 2*2:=O0
   rw [e1,mq fs _ O0] at e;rw [e1,k1];exact e
 have e1:j=j / 2*2+1:=O0;rw [e1,Cs fs _ O0] at e;rw [e1,<- Nat.add_assoc,k2];exact e
theorem QK (v:Value) (w:World) (h:di 40 w v):
 Calls prog 65 #[.agg #[v]] w fun e w'=>(∃ v' n xs,e=.returned (.agg #[v'])/\w'.ownsRow w.heap.size 75 2 v' n xs/\SR n xs/\n<=40)/\Below w.heap.size w w':=by
 obtain ⟨a,cap,fs,rfl,hat,hl,hs⟩:=h;have HAT:=J5 hat;have HS:=J5 hs;clear hat hs;go_enter func65,ntmps65;obtain ⟨W,hW⟩:∃ W:World,W=((w.alloc (.cells #[.slice a fs.length cap] 25)).alloc (.cells #[.slice none 0 0] 25)).alloc (.cells #[] 75):=⟨_,rfl⟩;have bW:Below w.heap.size w W:=by rw [hW];exact (bA.alloc U0 _).alloc X3 _
 have CR:Hid (Cl W (w.heap.size+1) 25 [.slice none 0 0]):=by show Cl _ _ _ _;rw [hW];exact B_ (qg (xs:=[_]) U0) _
 have RW:Hid (W.ownsRow (w.heap.size+2) 75 2 (.slice (some ⟨w.heap.size+1+1,0,none⟩) 0 0) 0 []):=by
  have:=row0 ((w.alloc (.cells #[.slice a fs.length cap] 25)).alloc (.cells #[.slice none 0 0] 25)) 75 2 (base:=w.heap.size+2) U0;show World.ownsRow _ _ _ _ _ _ _;rw [hW];simpa using this
 have SRC:=J5 (NF (cap:=cap) HAT.out bW)
 go_wp2_with (at_builtin;rw [<- hW];refine Kc rfl _ _ 23 rfl (w.heap.size+2) 75 2 underlying23 Jh J3 _ 0 [] rfl RW.out _ fs.length (Xd fs) rfl SRC.out (Rm fs) O0 CR.out.lt ?_;intro v' w6 R6 g6 _;have b6:=Vf (Below.refl (w.heap.size+2) W) g6 CR.out.lt (fun j e=>(RW.out.lt j e).1);have C6:=CR.out.below b6 O0;have d6:=C6.cell 0;have f6:=C6.opn 0;have R6:=J5 R6;obtain ⟨va,vc,rfl⟩:=Lb R6.out;dsimp only [List.getElem?_cons_zero] at d6;clear g6)
 have er:=World.cell?_setCell_same w6 ⟨w.heap.size+1,0,none⟩ (.slice va fs.length vc) d6;refine bodyPost_ret (v:=.agg #[.slice va fs.length vc]) (by simp [results,Tryz.results65,go_sem,er]) rfl ⟨⟨_,fs.length,Xd fs,rfl,?_,wH HS.out,hl⟩,?_⟩
 · have h:=V4 (qi (b:=w.heap.size+1) (j:=0) (x:=.slice va fs.length vc) R6.out O0) (B':=w.heap.size) O0
   simpa using h
 exact (bW.trans (b6.mono O0)).setCell (by show _<=w.heap.size+1;omega) _
theorem Qj {w:World} {base X j:Nat} {e:TypeId} {size:Nat} {v y:Value} {n:Nat} {xs:List Value} (h:w.ownsRow base e size v n xs) (hv:v.ownBlock≠some X):(w.setCell ⟨X,j,none⟩ y).ownsRow base e size v n xs:=by
 refine ⟨h.1,h.2.imp id ?_⟩;rintro ⟨g,cap,cur,h1,h2,h3,h4⟩;exact ⟨g,cap,cur,h1,h2,(Below.heap_setCell _ _ _ _ (fun e=>hv (by rw [h1];exact congrArg some e))).trans h3,h4⟩
structure Sp (q P:Nat) (w:World) (X n:Nat) (v:Value) (xs:List Value) (u:World):Prop where
 rd:o8 u q P
 bu:But q w u
 qw:q<w.heap.size
 h1:Cl u (w.heap.size+1) 25 [.slice none 0 0]
 h2:Cl u X 25 [v]
 hX:w.heap.size+2<=X
 ho:u.ownsRow (w.heap.size+2) 75 2 v n xs
 sr:SR n xs
variable {q P P' X n:Nat} {w u u':World} {v v':Value} {xs:List Value}
theorem Sp.call (h:Sp q P w X n v xs u) (hr:o8 u' q P') (hb:But q u u'):Sp q P' w X n v xs u':=by
 have:=h.qw;have:=h.hX;exact ⟨hr,h.bu.trans hb,h.qw,(hb.block _ h.h1.lt O0).trans h.h1,(hb.block _ h.h2.lt O0).trans h.h2,h.hX,Ph h.ho hb O0,h.sr⟩
theorem Sp.later (h:Sp q P w X n v xs u) (hb:Below u.heap.size u u'):Sp q P w X n v xs u':=h.call (h.rd.later hb) (But.of_below hb)
theorem row_of {w:World} {base:Nat} {e:TypeId} {size n:Nat} {v:Value} {xs:List Value} (h:w.ownsRow base e size v n xs) {k:Nat} (hk:v.ownBlock=some k):∃ cur,w.heap[k]?=some (.cells cur e (0,0)):=by
 rcases h.2 with ⟨rfl,_⟩ | ⟨g,cap,cur,rfl,_,hg,_⟩
 · cases hk
 obtain rfl:=Option.some.inj hk;exact ⟨cur,hg⟩
theorem Sp.ne (h:Sp q P w X n v xs u) {k:Nat} (hk:v.ownBlock=some k):k≠X/\k≠w.heap.size+1/\w.heap.size+2<=k:=by
 obtain ⟨cur,hc⟩:=row_of h.ho hk;refine ⟨fun e=>?_,fun e=>?_,(h.ho.lt k hk).1⟩
 · subst e;have:=hc.symm.trans h.h2;cases this
 · subst e;have:=hc.symm.trans h.h1;cases this
theorem Sp.gr (h:Sp q P w X n v xs u) (hg:u.grownBy u' v.ownBlock) {m:Nat} {ys:List Value} (hr:u'.ownsRow (w.heap.size+2) 75 2 v' m ys) (hs:SR m ys):o8 u' q P/\But q w u'/\Cl u' (w.heap.size+1) 25 [.slice none 0 0]/\Cl u' X 25 [v]:=by
 have hb:=Vf (Below.refl (w.heap.size+2) u) hg (by have:=h.h2.lt;have:=h.hX;omega) (fun k e=>(h.ne e).2.2);have:=h.qw;refine ⟨h.rd.Q9 hb O0,h.bu.Q9 hb O0,h.h1.below hb O0,(hg.block X h.h2.lt (fun e=>?_)).trans h.h2⟩;exact (h.ne e.symm).1 rfl
theorem Sp.put (h:Sp q P w X n v xs u) (hg:u.grownBy u' v.ownBlock) {m:Nat} {ys:List Value} (hr:u'.ownsRow (w.heap.size+2) 75 2 v' m ys) (hs:SR m ys) (hne:∀ k,v'.ownBlock=some k->k≠X):Sp q P w X m v' ys (u'.setCell ⟨X,0,none⟩ v'):=by
 obtain ⟨k1,k2,k3,k4⟩:=h.gr hg hr hs;have:=h.qw;have:=h.hX;exact ⟨K8 k1 O0 _ _,K7 k2 O0 _ _,h.qw,k3.on (F8 _ _ _ _) O0,k4.set 0 v',h.hX,Qj hr (fun e=>hne X e rfl),hs⟩
theorem Sp.Ld {g c:Nat} (h:Sp q P w X n (.slice (some ⟨g,0,none⟩) n c) xs u) (j:Nat) {s:ByteArray} (hs:s.size<=4000):Sp q P w X n (.slice (some ⟨g,0,none⟩) n c) (xs.set j (.string s)) (u.setCell ⟨g,j,none⟩ (.string s)):=by
 obtain ⟨k1,k2⟩:=h.ho.stored j (.string s);obtain ⟨a1,a2,a3,a4⟩:=h.gr (v':=.slice (some ⟨g,0,none⟩) n c) k2 k1 (h.sr.set j hs);exact ⟨a1,a2,h.qw,a3,a4,h.hX,k1,h.sr.set j hs⟩
theorem Sp.fin (h:Sp q P w X n v xs u) (hn:n<=60):o8 (u.setCell ⟨w.heap.size+1,0,none⟩ v) q P/\But q w (u.setCell ⟨w.heap.size+1,0,none⟩ v)/\di 60 (u.setCell ⟨w.heap.size+1,0,none⟩ v) v/\∀ k,v.ownBlock=some k->w.heap.size<=k:=by
 obtain ⟨gs,rfl,rfl,hg⟩:=h.sr.fi;have:=h.qw;exact ⟨K8 h.rd O0 _ _,K7 h.bu O0 _ _,Vu (Qj h.ho (fun e=>(h.ne e).2.1 rfl)) hn hg,fun k e=>by have:=(h.ne e).2.2;omega⟩
end Go.Proofs.YtdpoaadafcaffaaGreatDoor
namespace Go.Proofs.YtdpoaadafcaffaaGreatDoor
open Proofs.Tryz
open Go.RowKit
open G.T (F2 L6 U3 U7)
def kI (q P:Nat) (w:World) (e:Ending) (w':World):Prop:=(∃ v',e=.returned (.agg #[v'])/\di 60 w' v'/\∀ k,v'.ownBlock=some k->w.heap.size<=k)/\o8 w' q (P+5)/\But q w w'
theorem Dr {q P X n:Nat} {w u:World} {v:Value} {xs:List Value} (h:Sp q (P+5) w X n v xs u) (hn:n<=60) (tm:Array Value) (h4:tm[4]?=some (.pointer (some ⟨w.heap.size+1,0,none⟩))):bodyPost prog f32 (kI q P w) .ret ⟨tm,[]⟩ (u.setCell ⟨w.heap.size+1,0,none⟩ v):=by
 have er:=World.cell?_setCell_same u ⟨w.heap.size+1,0,none⟩ v (h.h1.cell 0);obtain ⟨a,b,c,d⟩:=h.fin hn;exact bodyPost_ret (v:=.agg #[v]) (by simp [results,Tryz.results32,go_sem,er,h4]) rfl ⟨⟨v,rfl,c,d⟩,a,b⟩
theorem bC (w:World) (a b:Obj):Below w.heap.size w ((w.alloc a).alloc b):=bA.alloc U0 _
theorem new_ne {q P X n:Nat} {w u:World} {v v':Value} {xs:List Value} (h:Sp q P w X n v xs u) (hn:v'.ownBlock=v.ownBlock\/v'.ownBlock=some u.heap.size):∀ k,v'.ownBlock=some k->k≠X:=fun k e=>by
 rcases hn with hn | hn
 · exact (h.ne (hn.symm.trans e)).1
 rw [hn] at e;have:=Option.some.inj e;have:=h.h2.lt;omega
def Yz (X:Nat) (w:World):Nat:=match w.cell? ⟨X,0,none⟩ with | some (.slice _ n _)=>n | _=>0
theorem GH (u:World) (y z:Int):(convert 22 9 (.slice (some ⟨u.heap.size,0,none⟩) 2 2)).run prog (u.alloc (.cells #[.int .u8 y,.int .u8 z] 5))=.ok (.string (strOfNums [y,z])) (u.alloc (.cells #[.int .u8 y,.int .u8 z] 5)):=
 run_convert_bytes_arg _ 22 5 underlying22 underlying5 _ 0 2 2 [y,z] rfl (fun i hi=>by
  obtain rfl | rfl:i=0\/i=1:=O0
  · simp
  simp) 9 underlying9
theorem c32 (q P:Nat) (v:Value) (w:World) (hp:P<=90000) (hr:o8 w q P) (h:di 40 w v):
 Calls prog 32 #[.pointer (some ⟨q,0,none⟩),.agg #[v]] w fun e w'=>kI q P w e w':=by
 have HR:=J5 hr;have HT:=J5 h;obtain ⟨a0,c0,fs0,hv,_⟩:=h;clear hr;subst hv;go_enter func32,ntmps32
 go_wp2_with fail
 obtain ⟨W,hW⟩:∃ W:World,W=(w.alloc (.cells #[.slice a0 fs0.length c0] 25)).alloc (.cells #[.slice none 0 0] 25):=⟨_,rfl⟩;rw [<- hW];have b0:Below w.heap.size w W:=by rw [hW];exact bA.alloc U0 _
 have C1:Hid (Cl W (w.heap.size+1) 25 [.slice none 0 0]):=by show Cl _ _ _ _;rw [hW];exact qg (xs:=[_]) U0
 have hz:W.heap.size=w.heap.size+2:=by rw [hW];simp
 have HZ:=J5 hz;clear hW hz;refine (QK _ W (HT.out.below b0)).mono ?_;rintro e w1 ⟨⟨v,n,xs,rfl,hr,hs,hn⟩,hb1⟩;obtain ⟨va,vc,rfl⟩:=Lb hr;obtain ⟨U,hU⟩:∃ U:World,U=w1.alloc (.cells #[.slice va n vc] 25):=⟨_,rfl⟩;have bU:Below w1.heap.size w1 U:=by rw [hU];exact bA
 have hqw:=HR.out.lt;have HS:Hid (Sp q P w w1.heap.size n (.slice va n vc) xs U):=by
  have hb:=b0.trans ((bT hb1 bU).mono b0.size);refine ⟨HR.out.later hb,But.of_below hb,hqw,(C1.out.below hb1 C1.out.lt).below bU (C1.out.below hb1 C1.out.lt).lt,by rw [hU];exact F3 w1 [_] 25,by have:=hb1.size;have:=HZ.out;omega,?_,hs⟩;have:=ownsRow_below hr bU;rw [HZ.out] at this;exact this
 have Hn:=J5 hn;have CR:=C1.out.below hb1 C1.out.lt;have dR:=CR.cell 0;have fR:=CR.opn 0;have zR:=CR.lt;dsimp only [List.getElem?_cons_zero] at dR;have TE:Hid (But q w w1/\o8 w1 q P):=⟨But.of_below (bT b0 hb1),HR.out.later (bT b0 hb1)⟩;clear hr hs hb1 b0 HR HT bU C1 CR;rcases Nat.eq_zero_or_pos n with h0 | h0
 · subst h0
   have zR2:w.heap.size+1<w1.heap.size+1:=O0;go_wp2;have er:=World.cell?_setCell_same w1 ⟨w.heap.size+1,0,none⟩ (.slice (some ⟨w1.heap.size+1,0,none⟩) 1 1) dR;refine bodyPost_ret (v:=.agg #[.slice (some ⟨w1.heap.size+1,0,none⟩) 1 1]) (by simp [results,Tryz.results32,go_sem,er,zR,zR2]) rfl ⟨⟨_,rfl,⟨_,1,[⟨⟨#[]⟩,⟨#[]⟩⟩],rfl,.inr ⟨_,0,rfl,U0,fun i hi=>?_⟩,U0,by intro x hx;simp at hx;subst hx;exact ⟨J3,J3⟩⟩,fun k e=>by have:=Option.some.inj e;simp at this;omega⟩,?_,?_⟩
   · obtain rfl:i=0:=by simpa using hi
     exact ⟨(qg (xs:=[.string ⟨#[]⟩,.string ⟨#[]⟩]) (t:=75) U0).cell 0,(qg (xs:=[.string ⟨#[]⟩,.string ⟨#[]⟩]) (t:=75) U0).cell 1⟩
   · exact ((K8 TE.out.2 O0 _ _).later (bC _ _ _)).mono O0
   exact (K7 TE.out.1 O0 _ _).later (bC _ _ _)
 have hne:((n:Int)==0)=false:=X3
 go_wp2_with fail
 rw [<- hU];clear hU dR fR zR TE;generalize w1.heap.size=X at*;refine (K6 U q P n O0 O0 O0 HS.out.rd).mono ?_;rintro e u1 ⟨⟨k,rfl,k0,k1⟩,H1,ho⟩;have NL:=J5 (HS.out.call H1 ho.but);clear HS H1 ho;obtain ⟨k,rfl⟩:=Int.eq_ofNat_of_zero_le k0
 go_wp2_with fail
 refine (K6 u1 q (P+1) 5 O0 O0 O0 NL.out.rd).mono ?_;rintro e u ⟨⟨r,rfl,r0,r1⟩,H1,ho⟩;have HS:=J5 (NL.out.call H1 ho.but);clear NL H1 ho;have dX:=HS.out.h2.cell 0;have fX:=HS.out.h2.opn 0;have dR:=HS.out.h1.cell 0;have fR:=HS.out.h1.opn 0;have zX:=HS.out.h2.lt;have gX:=HS.out.hX;dsimp only [List.getElem?_cons_zero] at dX dR;obtain ⟨g,rfl⟩:∃ g,va=some ⟨g,0,none⟩:=by
  rcases HS.out.ho.2 with ⟨_,h⟩ | ⟨g,_,_,h,_⟩
  · omega
  injection h with h _ _;exact ⟨g,h⟩
 have hk1:=k1;have mark:=trivial;obtain rfl | rfl | rfl | rfl | rfl:r=0\/r=1\/r=2\/r=3\/r=4:=O0
 · go_wp2_with fail
   refine wp_region_held_drew (S:=fun u=>u.cell? ⟨X,0,none⟩=some (.slice (some ⟨g,0,none⟩) n vc)) I1 ?_ fun hH=>?_
   · ((try dsimp only);go_keep)
   obtain ⟨y0,hy⟩:∃ y:World,y=u.drew:=⟨_,rfl⟩;rw [<- hy] at hH ⊢;have HS:=J5 (HS.out.later (u':=y0) (by rw [hy];exact (Below.refl _ _).drew));clear hy dX fX dR fR;refine tq 0 hH ?_;refine tq 1 hH ?_;refine tq 2 hH ?_;refine tq 3 hH ?_;refine tq 8 hH ?_
   try simp only [qq]
   refine rq 4 fun K hK=>?_;go_simp;refine (K6 y0 q (P+2) 2 O0 O0 O0 HS.out.rd).mono ?_;rintro e y1 ⟨⟨r1,rfl,lV,r11⟩,H1,ho⟩;have NL:=J5 (HS.out.call H1 ho.but);clear HS H1 ho hH;obtain ⟨m,rfl⟩:=Int.eq_ofNat_of_zero_le lV;go_simp;refine hK.out _ _ (NL.out.h2.cell 0) fun hH=>?_;clear hK K;have hw:IntKind.i64.wrap (20+(m:Int))=((20+m:Nat):Int):=by simp [IntKind.wrap,IntKind.signed,IntKind.bits];omega
   try simp only [qq]
   refine tq 5 hH ?_
   try simp only [qq]
   refine rq 6 fun K hK=>?_;go_simp;refine (RJ ⟨#[110]⟩ (20+m) y1 J3 O0).mono ?_;rintro e w6 ⟨⟨x,rfl,hx⟩,XP⟩;obtain rfl:=XP.symm;clear hw hH;go_simp;refine hK.out _ _ (NL.out.h2.cell 0) fun hH=>?_;clear hK K
   try simp only [qq]
   refine wpAnyH_ready (rs:=[7,9]) I1 U0 (AllReadyH.cons (o:=⟨some 52,_,73,_,_,none⟩) rfl (fun K hK=>?_) (AllReadyH.cons (o:=⟨some 54,.call ⟨.value (.func 31),#[.tmp 53,.const (.int .i64 4)],#[47,3]⟩,3,_,_,none⟩) rfl (fun K hK=>?_) AllReadyH.nil));go_simp;obtain ⟨y2,hy⟩:∃ y:World,y=y1.alloc (.cells #[.string ⟨#[]⟩,.string ⟨#[120,32,121]⟩,.string ⟨#[122,122]⟩,.string x] 9):=⟨_,rfl⟩;rw [<- hy];have b2:Below y1.heap.size y1 y2:=by rw [hy];exact bA
   have C2:Hid (Cl y2 y1.heap.size 9 [.string ⟨#[]⟩,.string ⟨#[120,32,121]⟩,.string ⟨#[122,122]⟩,.string x]):=by show Cl _ _ _ _;rw [hy];exact F3 y1 _ 9
   have HS2:=J5 (NL.out.later b2);have hqy:=NL.out.rd.lt;clear hy hH NL;refine hK.out _ _ (HS2.out.h2.cell 0) fun hH=>?_;clear hK K
   try simp only [qq]
   refine rq 9 fun K hK=>?_;go_simp;refine (K6 y2 q (P+3) 4 O0 O0 O0 HS2.out.rd).mono ?_;rintro e y3 ⟨⟨r2,rfl,BR,rV⟩,H1,ho⟩;have gM:=J5 (HS2.out.call H1 ho.but);have C3:Hid (Cl y3 y1.heap.size 9 [.string ⟨#[]⟩,.string ⟨#[120,32,121]⟩,.string ⟨#[122,122]⟩,.string x]):=(ho.block _ O0).trans C2.out;clear ho hH H1 HS2 C2;go_simp;refine hK.out _ _ (gM.out.h2.cell 0) fun hH=>?_;clear hK K
   try simp only [qq]
   generalize y1.heap.size=B at C3 ⊢;revert mark;rotate_left;go_simp;refine (K6 y1 q (P+3) 4 O0 O0 O0 NL.out.rd).mono ?_;rintro e y2 ⟨⟨r2,rfl,BR,rV⟩,H1,ho⟩;have HS2:=J5 (NL.out.call H1 ho.but);clear ho hH H1 NL;go_simp;refine hK.out _ _ (HS2.out.h2.cell 0) fun hH=>?_;clear hK K
   try simp only [qq]
   refine rq 7 fun K hK=>?_;go_simp;obtain ⟨y3,hy⟩:∃ y:World,y=y2.alloc (.cells #[.string ⟨#[]⟩,.string ⟨#[120,32,121]⟩,.string ⟨#[122,122]⟩,.string x] 9):=⟨_,rfl⟩;rw [<- hy];have b3:Below y2.heap.size y2 y3:=by rw [hy];exact bA
   have C3:Hid (Cl y3 y2.heap.size 9 [.string ⟨#[]⟩,.string ⟨#[120,32,121]⟩,.string ⟨#[122,122]⟩,.string x]):=by show Cl _ _ _ _;rw [hy];exact F3 y2 _ 9
   have gM:=J5 (HS2.out.later b3);clear hy hH HS2;refine hK.out _ _ (gM.out.h2.cell 0) fun hH=>?_;clear hK K
   try simp only [qq]
   generalize y2.heap.size=B at C3 ⊢;revert mark
   all_goals
    intro _;obtain ⟨z,hz,hzs⟩:=yf [.string ⟨#[]⟩,.string ⟨#[120,32,121]⟩,.string ⟨#[122,122]⟩,.string x] 4000 (by simp [Fp];exact ⟨J3,J3,J3,hx⟩) BR (by simpa using rV);have cz:=(C3.out.cell r2.toNat).trans hz;have dg:=gM.out.ho.cellAt (k*2) O0;have fg:=gM.out.ho.frozenAt (k*2);obtain ⟨s0,hs0,_⟩:=gM.out.sr.get (j:=k*2) O0;rw [hs0] at dg;refine tq 10 hH ?_
    try simp only [qq]
    refine rq 11 fun K hK=>?_;go_simp;refine hK.out _ _ (gM.out.h2.cell 0) fun hH=>?_;clear hK K
    try simp only [qq]
    refine tq 12 hH ?_;refine tq 13 hH ?_
    try simp only [qq]
    refine rq 14 fun K hK=>?_;go_simp;have YN:=J5 ((gM.out.Ld (k*2) hzs).call (P':=P+5) ((gM.out.Ld (k*2) hzs).rd.mono O0) (But.refl _ _));clear hH gM C3 cz dg fg;refine hK.out _ _ (YN.out.h2.cell 0) fun hH=>?_;clear hK K
    try simp only [qq]
    refine wpAnyH_done I1 ?_ _;clear hH;generalize (World.setCell _ _ _)=y4 at*;have dX:=YN.out.h2.cell 0;have dR:=YN.out.h1.cell 0;have fR:=YN.out.h1.opn 0;dsimp only [List.getElem?_cons_zero] at dX dR;go_wp2;exact Dr YN.out O0 _ rfl
 · go_wp2_with fail
   refine wp_region_held_drew (S:=fun u=>u.cell? ⟨X,0,none⟩=some (.slice (some ⟨g,0,none⟩) n vc)) I1 ?_ fun hH=>?_
   · ((try dsimp only);go_keep)
   obtain ⟨y0,hy⟩:∃ y:World,y=u.drew:=⟨_,rfl⟩;rw [<- hy] at hH ⊢;have HS:=J5 (HS.out.later (u':=y0) (by rw [hy];exact (Below.refl _ _).drew));clear hy dX fX dR fR;refine tq 0 hH ?_;refine tq 1 hH ?_;refine tq 2 hH ?_;refine tq 3 hH ?_
   try simp only [qq]
   refine rq 4 fun K hK=>?_;go_simp;refine (K6 y0 q (P+2) 2 O0 O0 O0 HS.out.rd).mono ?_;rintro e y1 ⟨⟨r1,rfl,lV,r11⟩,H1,ho⟩;have NL:=J5 (HS.out.call H1 ho.but);clear HS H1 ho hH;obtain ⟨m,rfl⟩:=Int.eq_ofNat_of_zero_le lV;go_simp;refine hK.out _ _ (NL.out.h2.cell 0) fun hH=>?_;clear hK K;have hw:IntKind.i64.wrap (300+(m:Int))=((300+m:Nat):Int):=by simp [IntKind.wrap,IntKind.signed,IntKind.bits];omega
   try simp only [qq]
   refine tq 5 hH ?_
   try simp only [qq]
   refine rq 6 fun K hK=>?_;go_simp;refine (RJ ⟨#[116]⟩ (300+m) y1 J3 O0).mono ?_;rintro e w6 ⟨⟨x,rfl,hx⟩,XP⟩;obtain rfl:=XP.symm;clear hw hH;go_simp;refine hK.out _ _ (NL.out.h2.cell 0) fun hH=>?_;clear hK K
   try simp only [qq]
   have dg:=NL.out.ho.cellAt (k*2+1) O0;have fg:=NL.out.ho.frozenAt (k*2+1);obtain ⟨s0,hs0,_⟩:=NL.out.sr.get (j:=k*2+1) O0;rw [hs0] at dg;refine tq 7 hH ?_;refine tq 8 hH ?_
   try simp only [qq]
   refine rq 9 fun K hK=>?_;go_simp;have YN:=J5 ((NL.out.Ld (k*2+1) hx).call (P':=P+5) ((NL.out.Ld (k*2+1) hx).rd.mono O0) (But.refl _ _));clear hH NL dg fg;refine hK.out _ _ (YN.out.h2.cell 0) fun hH=>?_;clear hK K
   try simp only [qq]
   refine wpAnyH_done I1 ?_ _;clear hH;generalize (World.setCell _ _ _)=y4 at*;have dX:=YN.out.h2.cell 0;have dR:=YN.out.h1.cell 0;have fR:=YN.out.h1.opn 0;dsimp only [List.getElem?_cons_zero] at dX dR;go_wp2;exact Dr YN.out O0 _ rfl
 · obtain ⟨s0,hs0,l0⟩:=HS.out.sr.get (j:=k*2) O0
   obtain ⟨s1,hs1,l1⟩:=HS.out.sr.get (j:=k*2+1) O0;have g0:=(HS.out.ho.cellAt (k*2) O0).trans hs0;have g1:=(HS.out.ho.cellAt (k*2+1) O0).trans hs1
   go_wp2_with fail
   refine P7 (S:=fun u=>u.cell? ⟨X,0,none⟩=some (.slice (some ⟨g,0,none⟩) n vc)) 10 I1 ?_ fun hH=>?_
   · ((try dsimp only);go_keep)
   refine lq 0 hH ?_;refine lq 1 hH ?_;refine lq 2 hH ?_;refine lq 3 hH ?_;refine lq 4 hH ?_;refine lq 5 hH ?_
   try simp only [qq]
   refine lr (i:=6) (o:=⟨some 78,.load 75 (.tmp 77),75,_,_,none⟩) rfl J3 I1 fun K hK=>?_;go_simp;refine hK.out _ _ ?_ fun hH=>?_
   · ((try dsimp only);go_keep)
   clear hK K
   try simp only [qq]
   refine lr (i:=7) (o:=⟨some 79,.buildSlice 23 1 #[(0,.tmp 78)],23,_,_,none⟩) rfl J3 I1 fun K hK=>?_;go_simp;obtain ⟨y,hy⟩:∃ y:World,y=(u.alloc (.cells #[.string s0,.string s1] 75)).drew:=⟨_,rfl⟩;rw [<- hy];have hby:Below u.heap.size u y:=by rw [hy];exact bA.drew
   have CS:Hid (Cl y u.heap.size 75 [.string s0,.string s1]):=by show Cl _ _ _ _;rw [hy];exact F3 u _ 75
   have HY:=J5 (HS.out.later hby);clear hy hH;refine hK.out _ _ ?_ fun hH=>?_
   · exact HY.out.h2.cell 0
   clear hK K
   try simp only [qq]
   refine lr (i:=8) (o:=⟨some 80,.call ⟨.builtin .append,#[.tmp 73,.tmp 79],#[23,23]⟩,23,_,_,none⟩) rfl J3 I1 fun K hK=>?_;refine V9 rfl _ _ 23 rfl (w.heap.size+2) 75 2 underlying23 Jh J3 _ n _ rfl HY.out.ho _ 1 [.string s0,.string s1] rfl (.inr ⟨⟨u.heap.size,0,none⟩,1,rfl,rfl,r_ CS.out⟩) (by simp [Value.oneCell']) O0 (by have:=HY.out.h2.lt;omega) ?_;intro v' y2 O2 g2 hn2;obtain ⟨nW,oW,rfl⟩:=Lb O2;obtain ⟨_,_,_,c2⟩:=HY.out.gr g2 O2 (HY.out.sr.app l0 l1);have HZ:=HY.out.put g2 O2 (HY.out.sr.app l0 l1) (new_ne HY.out hn2);have YN:=J5 (HZ.call (P':=P+5) (HZ.rd.mono O0) (But.refl _ _));clear O2 hH;refine hK.out _ _ ?_ fun hH=>?_
   · exact c2.cell 0
   clear hK K
   try simp only [qq]
   refine lq 9 hH ?_
   try simp only [qq]
   refine lz (o:=⟨none,.store 23 (.tmp 81) (.tmp 80),0,_,_,none⟩) rfl I1 fun K hK=>?_;have z2:=c2.cell 0;have zf:=c2.opn 0;dsimp only [List.getElem?_cons_zero] at z2;go_simp;clear hH;refine hK.out _ _ ?_;clear hK K
   try simp only [qq]
   refine F9 I1 ?_ _;clear z2 zf c2;generalize (World.setCell _ _ _)=y4 at*;have dX:=YN.out.h2.cell 0;have dR:=YN.out.h1.cell 0;have fR:=YN.out.h1.opn 0;dsimp only [List.getElem?_cons_zero] at dX dR;go_wp2;exact Dr YN.out O0 _ rfl
 · go_wp2_with fail
   refine (K6 u q (P+2) 2 O0 O0 O0 HS.out.rd).mono ?_;rintro e y1 ⟨⟨r1,rfl,lV,r11⟩,H1,ho⟩;have NL:=J5 (HS.out.call H1 ho.but);clear HS H1 ho dX fX dR fR;obtain ⟨m0,rfl⟩:=Int.eq_ofNat_of_zero_le lV
   go_wp2_with fail
   go_loopw [8] (fun i wr=>∃ (j m:Nat) (va:Option Addr) (vc:Nat) (ys:List Value),i=.int .i64 j/\j<=m/\m<=41/\Hid (Sp q (P+3) w X m (.slice va m vc) ys wr)) (fun _ wr=>60 - Yz X wr)
   case atStart=>exact ⟨0,n,_,vc,xs,rfl,O0,O0,NL⟩
   obtain ⟨j,m,va,vc,ys,rfl,hj,hm,HS⟩:=hrel;have dX:=HS.out.h2.cell 0;have fX:=HS.out.h2.opn 0;have dR:=HS.out.h1.cell 0;have fR:=HS.out.h1.opn 0;have zX:=HS.out.h2.lt;dsimp only [List.getElem?_cons_zero] at dX dR;by_cases hlt:m<40+m0;rotate_left
   · go_wp2
     exact Dr (HS.out.call (P':=P+5) (HS.out.rd.mono O0) (But.refl _ _)) O0 _ rfl
   obtain ⟨sn,hsn,hcv⟩:∃ sn:ByteArray,sn.size<=2/\(convert 22 9 (.slice (some ⟨wr.heap.size,0,none⟩) 2 2)).run prog (wr.alloc (.cells #[.int .u8 (97+(j:Int) / 26),.int .u8 (97+(j:Int) % 26)] 5))=.ok (.string sn) (wr.alloc (.cells #[.int .u8 (97+(j:Int) / 26),.int .u8 (97+(j:Int) % 26)] 5)):=⟨strOfNums [97+(j:Int) / 26,97+(j:Int) % 26],Nat.le_refl 2,GH wr _ _⟩;obtain ⟨V,hV⟩:∃ V:World,V=(wr.alloc (.cells #[.int .u8 (97+(j:Int) / 26),.int .u8 (97+(j:Int) % 26)] 5)).alloc (.cells #[.string (⟨#[122,122]⟩++sn),.string ⟨#[]⟩] 75):=⟨_,rfl⟩;have bV:Below wr.heap.size wr V:=by rw [hV];exact bC _ _ _
   have CS:Hid (Cl V (wr.heap.size+1) 75 [.string (⟨#[122,122]⟩++sn),.string ⟨#[]⟩]):=by show Cl _ _ _ _;rw [hV];exact qg (xs:=[_,_]) U0
   have HV:=J5 (HS.out.later bV);have hsz:(⟨#[122,122]⟩++sn:ByteArray).size<=4000:=by rw [ByteArray.size_append];have e:ByteArray.size ⟨#[122,122]⟩=2:=rfl;omega
   go_wp2_with (at_builtin;rw [<- hV];refine Kc rfl _ _ 23 rfl (w.heap.size+2) 75 2 underlying23 Jh J3 _ m _ rfl HV.out.ho _ 1 [.string (⟨#[122,122]⟩++sn),.string ⟨#[]⟩] rfl (.inr ⟨⟨wr.heap.size+1,0,none⟩,1,rfl,rfl,r_ CS.out⟩) (by simp [Value.oneCell']) O0 (by have:=HV.out.h2.lt;have:=HV.out.hX;omega) ?_;intro v' y2 O2 g2 hn2;obtain ⟨nW,oW,rfl⟩:=Lb O2;obtain ⟨_,_,_,c2⟩:=HV.out.gr g2 O2 (HV.out.sr.app hsz J3);have HZ:=J5 (HV.out.put g2 O2 (HV.out.sr.app hsz J3) (new_ne HV.out hn2));have z2:=c2.cell 0;have zf:=c2.opn 0;dsimp only [List.getElem?_cons_zero] at z2;clear O2 g2 hn2)
   go_roundw
   case rel=>exact ⟨j+1,m+1,_,_,_,by go_num,O0,O0,HZ⟩
   case measure=>
    have e1:Yz X wr=m:=by unfold Yz;rw [dX]
    have e2:=HZ.out.h2.cell 0;dsimp only [List.getElem?_cons_zero] at e2;have e3:Yz X (y2.setCell ⟨X,0,none⟩ (.slice nW (m+1) oW))=m+1:=by unfold Yz;rw [e2]
    rw [e1,e3];omega
 obtain ⟨a0,ha0,la0⟩:=HS.out.sr.get (j:=0) O0;obtain ⟨a1,ha1,la1⟩:=HS.out.sr.get (j:=1) O0;obtain ⟨b0,hb0,lb0⟩:=HS.out.sr.get (j:=k*2) O0;obtain ⟨b1,hb1,lb1⟩:=HS.out.sr.get (j:=k*2+1) O0;have g0:=(HS.out.ho.cellAt 0 O0).trans ha0;have g1:=(HS.out.ho.cellAt 1 O0).trans ha1;have hgu:=(HS.out.ho.lt g rfl).2
 go_wp2_with fail
 obtain ⟨y0,hy⟩:∃ y:World,y=u.alloc (.cells #[.string a0,.string a1] 75):=⟨_,rfl⟩;rw [<- hy];have by0:Below u.heap.size u y0:=by rw [hy];exact bA
 have CT:Hid (Cl y0 u.heap.size 75 [.string a0,.string a1]):=by show Cl _ _ _ _;rw [hy];exact F3 u _ 75
 have JL:=J5 (HS.out.later by0);clear hy dX fX dR fR g0 g1;have dX:=JL.out.h2.cell 0;dsimp only [List.getElem?_cons_zero] at dX;refine wp_region_held_drew (S:=fun u=>u.cell? ⟨X,0,none⟩=some (.slice (some ⟨g,0,none⟩) n vc)) I1 ?_ fun hH=>?_
 · ((try dsimp only);go_keep)
 obtain ⟨y1,hy⟩:∃ y:World,y=y0.drew:=⟨_,rfl⟩;rw [<- hy] at hH ⊢;have bd:Below y0.heap.size y0 y1:=by rw [hy];exact (Below.refl _ _).drew
 have NL:=J5 (JL.out.later bd);have CT:=J5 (CT.out.below bd CT.out.lt);clear hy JL dX;have g0:=(NL.out.ho.cellAt 0 O0).trans ha0;have g1:=(NL.out.ho.cellAt 1 O0).trans ha1;have f0:=NL.out.ho.frozenAt 0;have f1:=NL.out.ho.frozenAt 1;have k0:=(NL.out.ho.cellAt (k*2) O0).trans hb0;have k1':=(NL.out.ho.cellAt (k*2+1) O0).trans hb1;refine tq 0 hH ?_;refine tq 1 hH ?_;refine tq 2 hH ?_;refine tq 3 hH ?_;refine tq 4 hH ?_;refine tq 5 hH ?_
 try simp only [qq]
 refine rq 6 fun K hK=>?_;go_simp;refine hK.out _ _ (NL.out.h2.cell 0) fun hH=>?_;clear hK K
 try simp only [qq]
 have hnp:(0:Int)<(n:Int):=O0;refine tq 7 hH ?_
 try simp only [qq]
 refine rq 8 fun K hK=>?_;go_simp;have HS2:=J5 ((NL.out.Ld 0 lb0).Ld 1 lb1);have hne:u.heap.size≠g:=O0;have CT:=J5 ((CT.out.on (F8 _ g 0 (.string b0)) hne).on (F8 _ g 1 (.string b1)) hne);clear hH g0 g1 f0 f1 k0 k1' NL;generalize (World.setCell (World.setCell _ _ _) _ _)=y2 at*;refine hK.out _ _ (HS2.out.h2.cell 0) fun hH=>?_;clear hK K
 try simp only [qq]
 refine wpAnyH_done I1 ?_ _;clear hH;have dX:=HS2.out.h2.cell 0;have t0:=CT.out.cell 0;have t1:=CT.out.cell 1;dsimp only [List.getElem?_cons_zero,List.getElem?_cons_succ] at dX t0 t1;obtain ⟨s0,hs0,_⟩:=HS2.out.sr.get (j:=k*2) O0;obtain ⟨s1,hs1,_⟩:=HS2.out.sr.get (j:=k*2+1) O0;have q0:=(HS2.out.ho.cellAt (k*2) O0).trans hs0;have q1:=(HS2.out.ho.cellAt (k*2+1) O0).trans hs1;have f0:=HS2.out.ho.frozenAt (k*2);have f1:=HS2.out.ho.frozenAt (k*2+1);have gM:=(HS2.out.Ld (k*2) la0).Ld (k*2+1) la1;have YN:=J5 (gM.call (P':=P+5) (gM.rd.mono O0) (But.refl _ _));have dX9:=YN.out.h2.cell 0;have dR9:=YN.out.h1.cell 0;have fR9:=YN.out.h1.opn 0;dsimp only [List.getElem?_cons_zero] at dX9 dR9;clear gM HS2 CT;go_wp2;exact Dr YN.out O0 _ rfl
end Go.Proofs.YtdpoaadafcaffaaGreatDoor
