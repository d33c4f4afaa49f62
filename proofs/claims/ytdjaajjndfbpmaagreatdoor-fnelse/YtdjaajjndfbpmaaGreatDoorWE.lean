import Derived.Test.YtdjaajjndfbpmaaGreatDoorWC
set_option linter.unusedVariables false
set_option maxHeartbeats 8000000
set_option maxRecDepth 100000
namespace Go.Proofs.YtdjaajjndfbpmaaGreatDoor
open Go.RowKit
theorem Al {w:World} {base b j:Nat} {e:TypeId} {size:Nat} {v x:Value} {n:Nat} {xs:List Value} (h:w.ownsRow base e size v n xs) (hb:b<base):(w.setCell ⟨b,j,none⟩ x).ownsRow base e size v n xs:=by
  refine ⟨h.1,h.2.imp id ?_⟩;rintro ⟨g,cap,cur,h1,h2,h3,a⟩;exact ⟨g,cap,cur,h1,h2,(Xq _ _ _ _ (by show g≠b;omega)).trans h3,a⟩
structure TB (u:World) (base R X:Nat) (v:Value) (is:List I3):Prop where
  r:u.heap[R]?=some (.cells #[.slice none 0 0] 126 (0,0))
  x:u.heap[X]?=some (.cells #[v] 126 (0,0))
  own:u.ownsRow base 165 3 v is.length (J5 is)
  lt:R<base∧X<base∧base≤u.heap.size∧R≠X
theorem Ih {u u':World} {q base:Nat} {e:TypeId} {size:Nat} {v:Value} {n:Nat} {xs:List Value} (h:u.ownsRow base e size v n xs) (c:But q u u') (hq:q<base):u'.ownsRow base e size v n xs:=by
  obtain ⟨h1,h2⟩:=h;refine ⟨h1,?_⟩;rcases h2 with h | ⟨g,cap,cur,hv,d,a,b⟩
  · exact .inl h
  · exact .inr ⟨g,cap,cur,hv,d,by rw [c.block g (Q4 a) O0];exact a,b⟩
theorem TB.but {u u':World} {q base R X:Nat} {v:Value} {is:List I3} (h:TB u base R X v is) (a:But q u u') (e:q<base) (f:R≠q) (hX:X≠q):TB u' base R X v is:=by
  obtain ⟨r,x,o,d,l2,c,b⟩:=h;exact ⟨by rw [a.block R O0 f];exact r,by rw [a.block X O0 hX];exact x,Ih o a e,d,l2,Z4 c a.size,b⟩
theorem TB.below {u u':World} {base R X:Nat} {v:Value} {is:List I3} (h:TB u base R X v is) (a:Below u.heap.size u u'):TB u' base R X v is:=by
  obtain ⟨r,x,o,d,l2,c,b⟩:=h;exact ⟨by rw [a.block R O0];exact r,by rw [a.block X O0];exact x,ownsRow_below o a,d,l2,Z4 c a.size,b⟩
theorem TB.cells {u:World} {base R X:Nat} {v:Value} {is:List I3} (h:TB u base R X v is):u.cell? ⟨X,0,none⟩=some v∧u.frozen? ⟨X,0,none⟩=false∧u.cell? ⟨R,0,none⟩=some (.slice none 0 0)∧u.frozen? ⟨R,0,none⟩=false:=
  ⟨by rw [Z5 h.x];rfl,B_ h.x 0,by rw [Z5 h.r];rfl,B_ h.r 0⟩
def dA:Array Value:=#[.int .i64 0,.int .i64 0,.int .i64 0,.int .i64 1,.int .i64 1,.int .i64 2,.int .i64 3,.int .i64 4,.int .i64 5,.int .i64 6,.int .i64 7,.int .i64 8,.int .i64 4,.int .i64 3,.int .i64 1,.int .i64 0]
theorem MO (r:Int) (h0:0≤r) (h:r<16):∃ z:Int,dA[r.toNat]?=some (.int .i64 z):=by
  obtain rfl | rfl | rfl | rfl | rfl | rfl | rfl | rfl | rfl | rfl | rfl | rfl | rfl | rfl | rfl | rfl:r=0∨r=1∨r=2∨r=3∨r=4∨r=5∨r=6∨r=7∨r=8∨r=9∨r=10∨r=11∨r=12∨r=13∨r=14∨r=15:=O0
  all_goals exact ⟨_,rfl⟩
def fA:Array Value:=#[.int .i64 1,.int .i64 2,.int .i64 3,.int .i64 4,.int .i64 5,.int .i64 6,.int .i64 7,.int .i64 8,.int .i64 9,.int .i64 10,.int .i64 11,.int .i64 2,.int .i64 3,.int .i64 5]
theorem mO (r:Int) (h0:0≤r) (h:r<14):∃ z:Int,fA[r.toNat]?=some (.int .i64 z):=by
  obtain rfl | rfl | rfl | rfl | rfl | rfl | rfl | rfl | rfl | rfl | rfl | rfl | rfl | rfl:r=0∨r=1∨r=2∨r=3∨r=4∨r=5∨r=6∨r=7∨r=8∨r=9∨r=10∨r=11∨r=12∨r=13:=O0
  all_goals exact ⟨_,rfl⟩
theorem U7 {q B:Nat} {w u:World} (h:But q w u) (hB:w.heap.size≤B) (j:Nat) (a:Value):But q w (u.setCell ⟨B,j,none⟩ a):=
  ⟨h.os,h.tape,h.output,by simpa using h.size,fun k c b=>by
    rw [Z8 _ ⟨B,j,none⟩ k _ (by show k≠B;omega)];exact h.block k c b⟩
theorem J8 {q P B:Nat} {u:World} (h:D6 u q P) (hB:q<B) (j:Nat) (a:Value):D6 (u.setCell ⟨B,j,none⟩ a) q P:=by
  obtain ⟨p,c,b⟩:=h;exact ⟨p,c,b.later (B:=B) ((F4 B u).setCell (by exact Q6 _) _) hB⟩
theorem Ey {is:List I3} {x:I3} {N:Nat} (h:∀ j,(is.getD j A_).tx.size≤N) (hx:x.tx.size≤N) (j:Nat):((is++[x]).getD j A_).tx.size≤N:=by
  rcases yo j is.length with a | a | a
  · have:(is++[x]).getD j A_=is.getD j A_:=by simp [List.getD,Eb a]
    rw [this];exact h j
  · subst a
    have:(is++[x]).getD is.length A_=x:=by simp [List.getD]
    rw [this];exact hx
  · have:(is++[x]).getD j A_=A_:=by simp [List.getD,Xe (show (is++[x]).length≤j by simp;omega)]
    rw [this];exact I5 _
theorem D6.H_ {u u':World} {q P B:Nat} (h:D6 u q P) (b:Below B u u') (a:q<B):D6 u' q P:=by
  obtain ⟨p,h1,h2⟩:=h;exact ⟨p,h1,h2.later b a⟩
theorem But.H_ {q B:Nat} {w u u':World} (h:But q w u) (a:Below B u u') (hB:w.heap.size≤B):But q w u':=
  ⟨a.os.trans h.os,a.tape.trans h.tape,a.output.trans h.output,Z4 h.size a.size,fun k c b=>(a.block k O0).trans (h.block k c b)⟩
def XI (u:World) (Xi:Nat) (z:Int) (t:ByteArray) (o:Int):Prop:=u.heap[Xi]?=some (.cells #[.int .i64 z,.string t,.int .i64 o] 165 (0,0))
theorem XI.cells {u:World} {a:Nat} {z:Int} {t:ByteArray} {o:Int} (h:XI u a z t o):(u.cell? ⟨a,0,none⟩=some (.int .i64 z)∧u.cell? ⟨a,1,none⟩=some (.string t)∧u.cell? ⟨a,2,none⟩=some (.int .i64 o))∧u.frozen? ⟨a,1,none⟩=false∧u.frozen? ⟨a,2,none⟩=false:=
  ⟨⟨by rw [Z5 h];rfl,by rw [Z5 h];rfl,by rw [Z5 h];rfl⟩,B_ h 1,B_ h 2⟩
theorem XI.but {u u':World} {q a:Nat} {z:Int} {t:ByteArray} {o:Int} (h:XI u a z t o) (b:But q u u') (hX:a≠q):XI u' a z t o:=(b.block a (Q4 h) hX).trans h
theorem XI.set1 {u:World} {a:Nat} {z:Int} {t b:ByteArray} {o:Int} (h:XI u a z t o):XI (u.setCell ⟨a,1,none⟩ (.string b)) a z b o:=o8 u a 1 _ 165 _ h
theorem XI.set2 {u:World} {a:Nat} {z:Int} {t:ByteArray} {o b:Int} (h:XI u a z t o):XI (u.setCell ⟨a,2,none⟩ (.int .i64 b)) a z t b:=o8 u a 2 _ 165 _ h
theorem TB.DI {u:World} {base R X a j:Nat} {v b:Value} {is:List I3} (h:TB u base R X v is) (f:R≠a) (hX:X≠a) (hv:∀ g,v.ownBlock=some g→g≠a):TB (u.setCell ⟨a,j,none⟩ b) base R X v is:=by
  obtain ⟨r,x,o,l⟩:=h;refine ⟨by rw [Z8 _ ⟨a,j,none⟩ R _ f];exact r,by rw [Z8 _ ⟨a,j,none⟩ X _ hX];exact x,?_,by simpa using l⟩;have o':=o;obtain ⟨h1,h2⟩:=o;refine ⟨h1,?_⟩;rcases h2 with h | ⟨g,cap,cur,rfl,e,d,c⟩
  · exact .inl h
  · exact .inr ⟨g,cap,cur,rfl,e,by rw [Z8 _ ⟨a,j,none⟩ g _ (hv g rfl)];exact d,c⟩
theorem TB.app {u a:World} {base R X:Nat} {v v':Value} {is:List I3} {x:I3} {o:Obj} (h:TB u base R X v is) (g:a.ownsRow base 165 3 v' (is.length+1) (J5 is++[.int .i64 x.op,.string x.tx,.int .i64 x.to])) (j:(u.alloc o).grownBy a v.ownBlock):TB (a.setCell ⟨X,0,none⟩ v') base R X v' (is++[x])∧a.heap[X]?=some (.cells #[v] 126 (0,0))∧Below base u a:=by
  obtain ⟨r,f,ow,e,l2,d,c⟩:=h;have b:Below base u a:=((F4 base u).alloc d o).grown j J4 (fun k i=>(ow.lt k i).1);have hX:a.heap[X]?=some (.cells #[v] 126 (0,0)):=(b.block X l2).trans f;refine ⟨⟨?_,?_,?_,e,l2,by simpa using Z4 d b.size,c⟩,hX,b⟩
  · rw [Z8 _ ⟨X,0,none⟩ R _ c,b.block R e];exact r
  · exact o8 a X 0 _ 126 v' hX
  · rw [Q7,Fu,V_]
    exact Al g l2
theorem Le {is:List I3} {x:I3} (h:jq is) (hx:x.tx.size≤4000):jq (is++[x]):=Ey h hx
theorem Bt {w:World} {base:Nat} {v:Value} {is:List I3} (h:w.ownsRow base 165 3 v is.length (J5 is)):∃ a cap,v=.slice a is.length cap∧h_ base w a is:=by
  obtain ⟨a,cap,rfl,f⟩:=J7 h;refine ⟨a,cap,rfl,?_⟩;rcases f with h0 | ⟨b,c,rfl,d,e⟩
  · exact .inl h0
  · exact .inr ⟨b,c,rfl,(h.lt b rfl).1,d,e⟩
set_option maxHeartbeats 16000000 in
set_option maxRecDepth 100000 in
theorem MP (q P:Nat) (w:World) (hp:P≤80000) (hr:D6 w q P):
    Calls Tryz.prog 67 #[.pointer (some ⟨q,0,none⟩)] w fun e w'=>sF e w' 12 w.heap.size∧D6 w' q (P+60)∧But q w w':=by
  have hqw:=hr.lt;have hA0:Below w.heap.size w (w.alloc (.cells #[.slice none 0 0] 126)):=bA;have HR:Hid (D6 (w.alloc (.cells #[.slice none 0 0] 126)) q P):=hr.later hA0;clear hr;go_enter Tryz.func67,Tryz.ntmps67
  go_wp2_with fail
  refine (X5 (w.alloc (.cells #[.slice none 0 0] 126)) q P 4 O0 O0 O0 HR.out).mono ?_;rintro e w1 ⟨⟨r1,rfl,VZ,ZP⟩,h1,ho1⟩;have H1:Hid (D6 w1 q (P+1)):=h1;have hs1:w1.heap.size=w.heap.size+1:=by rw [ho1.size];simp
  have Q:w.heap.size+1≤w1.heap.size:=O0;have HT1:Hid (w1.heap[w.heap.size]?=some (.cells #[.slice none 0 0] 126 (0,0))):=(ho1.block _ O0).trans (X6 rfl _);have HB1:Hid (But q w w1):=(But.of_below hA0).trans ho1.but;clear h1 ho1 HR hs1;by_cases hgo:0<r1
  · have S:Below w1.heap.size w1 (w1.alloc (.cells dA 3)):=bA
    have hq1:q<w1.heap.size:=H1.out.lt
    go_wp2_with fail
    refine (X5 (w1.alloc (.cells dA 3)) q (P+1) 16 O0 O0 O0 (H1.out.later S)).mono ?_;rintro e B ⟨⟨r2,rfl,GV,a2q⟩,h2,K⟩;obtain ⟨z,hz⟩:=MO r2 GV a2q;have k2:B.cell? ⟨w1.heap.size,r2.toNat,none⟩=some (.int .i64 z):=by rw [K.cell (by show w1.heap.size≠q;omega),← hz];simp
    have H2:Hid (D6 B q (P+2)):=h2;have HB2:Hid (But q w B):=(HB1.out.later S).trans K.but;have HT2:Hid (B.heap[w.heap.size]?=some (.cells #[.slice none 0 0] 126 (0,0))):=by
      rw [Hid,K.block _ O0,Sm _ _ _ O0];exact HT1.out
    clear h2 K HB1 HT1 H1 hz S
    go_wp2_with fail
    refine (wO z B).mono ?_;rintro e b ⟨⟨T,a,cap,rfl,hT,TW,hTs⟩,hb3⟩;have D:w.heap.size<B.heap.size:=Q4 HT2.out;have HT3:Hid (b.heap[w.heap.size]?=some (.cells #[.slice none 0 0] 126 (0,0))):=by rw [Hid,hb3.block _ D];exact HT2.out
    have c3:b.cell? ⟨w.heap.size,0,none⟩=some (.slice none 0 0):=by rw [Z5 HT3.out];rfl
    have f3:b.frozen? ⟨w.heap.size,0,none⟩=false:=B_ HT3.out 0;have N:Hid (D6 b q (P+2)):=H2.out.later hb3;have L:Hid (But q w b):=HB2.out.later hb3;have HI3:Hid (h_ w.heap.size (b.setCell ⟨w.heap.size,0,none⟩ (.slice a T.length cap)) a T):=(hT.set D).mono O0;clear hb3 HB2 H2 HT2;go_wp2;have er:=O7 b ⟨w.heap.size,0,none⟩ (.slice a T.length cap) c3;refine K4 (v:=.agg #[.slice a T.length cap]) (by simp [results,Tryz.results67,go_sem,er]) rfl ⟨⟨T,a,cap,rfl,HI3.out,⟨TW.1,O0⟩,hTs⟩,?_,?_⟩
    · exact (J8 (N.out.mono O0) hqw _ _)
    · exact U7 L.out P9 _ _
  · obtain rfl:r1=0:=O0
    have S:Below w1.heap.size w1 (w1.alloc (.cells #[.slice none 0 0] 126)):=bA;have hq1:q<w1.heap.size:=H1.out.lt;have a0C:Hid (TB (w1.alloc (.cells #[.slice none 0 0] 126)) (w1.heap.size+1) w.heap.size w1.heap.size (.slice none 0 0) []):=⟨by rw [Sm _ _ _ O0];exact HT1.out,X6 rfl _,F9 _ _ _ _,O0,O0,X0,O0⟩
    go_wp2_with fail
    refine (X5 (w1.alloc (.cells #[.slice none 0 0] 126)) q (P+1) 10 O0 O0 O0 (H1.out.later S)).mono ?_;rintro e B ⟨⟨r2,rfl,GV,a4e⟩,h2,K⟩;have H2:Hid (D6 B q (P+2)):=h2;have HB2:Hid (But q w B):=(HB1.out.later S).trans K.but;have a0D:Hid (TB B (w1.heap.size+1) w.heap.size w1.heap.size (.slice none 0 0) []):=a0C.out.but K.but O0 O0 O0;clear h2 K a0C S HB1 HT1 H1;generalize hX:w1.heap.size=X at*;clear hX;obtain ⟨n2,rfl⟩:=A8 GV
    go_wp2_with fail
    go_loopw [4] (fun i wr=>∃ (k:Nat) (is:List I3) (v:Value),i=.int .i64 k∧(1≤k+is.length∧k+is.length≤10)∧Hid (jq is)∧Hid (TB wr (X+1) w.heap.size X v is)∧Hid (D6 wr q (P+2+4*is.length))∧Hid (But q w wr)) (fun i _=>(intOf i).toNat)
    case atStart=>exact ⟨1+n2,[],.slice none 0 0,X0,⟨X0,J4⟩,x_ rfl,a0D,H2,HB2⟩
    case round=>
      clear a0D H2 HB2;obtain ⟨k,is,v,rfl,hk,hsm,htb,hrd,hbu⟩:=hrel;have UR:=htb.out.lt.2.2.1;by_cases hk0:k=0
      · subst hk0
        go_wp2_with fail
        refine (X5 wr q (P+2+4*is.length) 3 O0 O0 O0 hrd.out).mono ?_;rintro e b ⟨⟨r3,rfl,r30,r33⟩,h3,J⟩;have N:Hid (D6 b q (P+2+4*is.length+1)):=h3;have L:Hid (But q w b):=hbu.out.trans J.but;have y:Hid (TB b (X+1) w.heap.size X v is):=htb.out.but J.but O0 O0 O0;have hz3:=y.out.lt.2.2.1;clear h3 J htb hrd hbu;by_cases hr3:0<r3
        · obtain ⟨j0,hi,hz0,Q,D⟩:=Ze Rp
          obtain ⟨Z,Y,rc,rf⟩:=y.out.cells;have hR3:w.heap.size<b.heap.size:=O0;have hX3:X<b.heap.size:=O0;have hown3:=y.out.own
          go_wp2_with fail
          go_region_law (first | (refine yl rfl (.tmp 56) (.tmp 58) 124 rfl (X+1) 165 j0 (.agg #[.int .i64 0,.string ⟨#[]⟩,.int .i64 0]) 3 32 Tryz.underlying124 hi hz0 Q D rfl K3 _ _ _ rfl (IR.alloc _) ⟨c.heap.size,0,none⟩ 1 1 [_,_,_] rfl rfl (Vh rfl _ _ _ _) (by intro u r;simp at r;rcases r with rfl | rfl | rfl <;> rfl) (by unfold maxLen;omega) O0 J4 ?_;intro v' f m s;have d:=C.out.app (x:=⟨10,⟨#[]⟩,0⟩) m s;have d1:f.cell? ⟨X,0,none⟩=some v:=(by rw [Lib.cell_of_heap d.2.1];rfl);have f1:f.frozen? ⟨X,0,none⟩=false:=Lib.frozen_of_heap d.2.1 0;have A:Hid (TB (f.setCell ⟨X,0,none⟩ v') (X+1) w.heap.size X v' (is++[⟨10,⟨#[]⟩,0⟩])):=d.1;have p:Hid (Below (X+1) c f):=d.2.2;obtain ⟨n,o,E⟩:=E9 m;subst E;clear s d m) | (go_simp;go_wp2_with (go_at_call 96;refine (lD 10 _).mono ?_;rintro e c ⟨rfl,t⟩;have iW:Hid (Below b.heap.size b c):=(Below.refl _ _).drew.trans t;have C:Hid (TB c (X+1) w.heap.size X v is):=y.out.below iW.out;have IR:=C.out.own;have ES:X+1≤c.heap.size:=C.out.lt.2.2.1;have vc4:=C.out.cells.1;have hX4:X<c.heap.size:=O0;clear t)))
          all_goals
            obtain ⟨xc,xf,rc6,rf6⟩:=A.out.cells;obtain ⟨a',cap',hva,SS⟩:=Bt A.out.own;have a2r:n=a'∧is.length+1=(is++[(⟨10,⟨#[]⟩,0⟩:I3)]).length∧o=cap':=by injection hva with h1 h2 h3;exact ⟨h1,h2,h3⟩
            obtain ⟨rfl,hll,rfl⟩:=a2r;clear hll;have HF:Hid (h_ (X+1) (f.setCell ⟨X,0,none⟩ (.slice n (is.length+1) o)) n (is++[⟨10,⟨#[]⟩,0⟩])):=SS;have NZ:Hid (D6 (f.setCell ⟨X,0,none⟩ (.slice n (is.length+1) o)) q (P+60)):=J8 (((N.out.later iW.out).H_ p.out O0).mono O0) O0 _ _;have HB7:Hid (But q w (f.setCell ⟨X,0,none⟩ (.slice n (is.length+1) o))):=U7 ((L.out.later iW.out).H_ p.out O0) O0 _ _;clear hva SS Z Y d1 f1 p iW C y A hown3 IR vc4 N L rc rf;generalize f.setCell ⟨X,0,none⟩ (.slice n (is.length+1) o)=w7 at*;go_wp2;have er:=O7 w7 ⟨w.heap.size,0,none⟩ (.slice n (is.length+1) o) rc6;refine K4 (v:=.agg #[.slice n (is.length+1) o]) (by simp [results,Tryz.results67,go_sem,er]) rfl ⟨⟨is++[⟨10,⟨#[]⟩,0⟩],n,o,X0,(HF.out.set O0).mono O0,⟨X0,J4⟩,Le hsm.out (by show (⟨#[]⟩:ByteArray).size≤4000;decide)⟩,?_,?_⟩
            · exact J8 NZ.out O0 _ _
            · exact U7 HB7.out P9 _ _
        · obtain rfl:r3=0:=O0
          obtain ⟨Z,Y,rc,rf⟩:=y.out.cells;obtain ⟨a',cap',hva,SS⟩:=Bt y.out.own;subst hva;have HF:Hid (h_ (X+1) b a' is):=SS;clear SS;go_wp2;have er:=O7 b ⟨w.heap.size,0,none⟩ (.slice a' is.length cap') rc;refine K4 (v:=.agg #[.slice a' is.length cap']) (by simp [results,Tryz.results67,go_sem,er]) rfl ⟨⟨is,a',cap',rfl,(HF.out.set O0).mono O0,⟨O0,O0⟩,hsm.out⟩,?_,?_⟩
          · exact J8 (N.out.mono O0) hqw _ _
          · exact U7 L.out P9 _ _
      · have hpos:(0:Int)<(k:Int):=O0
        have hAr:Below wr.heap.size wr (wr.alloc (.cells fA 3)):=bA;have hqr:q<wr.heap.size:=O0
        go_wp2_with fail
        refine (X5 (wr.alloc (.cells fA 3)) q (P+2+4*is.length) 14 O0 O0 O0 (hrd.out.later hAr)).mono ?_;rintro e b ⟨⟨r3,rfl,r30,a2s⟩,h3,J⟩;obtain ⟨z,hz⟩:=mO r3 r30 a2s;have k3:b.cell? ⟨wr.heap.size,r3.toNat,none⟩=some (.int .i64 z):=by rw [J.cell (by show wr.heap.size≠q;omega),← hz];simp
        have N:Hid (D6 b q (P+2+4*is.length+1)):=h3;have L:Hid (But q w b):=(hbu.out.later hAr).trans J.but;have y:Hid (TB b (X+1) w.heap.size X v is):=(htb.out.below hAr).but J.but O0 O0 O0;clear h3 J hAr htb hrd hbu hz
        go_wp2_with fail
        refine (vI z _).mono ?_;rintro e c ⟨rfl,hw4⟩;obtain rfl:=hw4.symm;have hA3:Below b.heap.size b (b.alloc (.cells #[.int .i64 z,.string ⟨#[]⟩,.int .i64 0] 165)):=bA;have lU:Hid (XI (b.alloc (.cells #[.int .i64 z,.string ⟨#[]⟩,.int .i64 0] 165)) b.heap.size z ⟨#[]⟩ 0):=X6 rfl _;have H:Hid (TB (b.alloc (.cells #[.int .i64 z,.string ⟨#[]⟩,.int .i64 0] 165)) (X+1) w.heap.size X v is):=y.out.below hA3;have WZ:Hid (D6 (b.alloc (.cells #[.int .i64 z,.string ⟨#[]⟩,.int .i64 0] 165)) q (P+2+4*is.length+1)):=N.out.later hA3;have IV:Hid (But q w (b.alloc (.cells #[.int .i64 z,.string ⟨#[]⟩,.int .i64 0] 165))):=L.out.later hA3;have hz3:=y.out.lt.2.2.1;have UW:Hid (∀ g,v.ownBlock=some g→g≠b.heap.size):=fun g hg=>by have:=(y.out.own.lt g hg).2;omega
        clear y N L hA3;obtain ⟨j0,hi,hz0,Q,D⟩:=Ze Rp;cases hux:M8 z
        · cases hut:Z7 z
          · obtain ⟨⟨i0c,i1c,i2c⟩,_,_⟩:=(lU.out).cells
            obtain ⟨Z,Y,_,_⟩:=(H.out).cells;have U:Hid (TB (b.alloc (.cells #[.int .i64 z,.string ⟨#[]⟩,.int .i64 0] 165)) (X+1) w.heap.size X v is):=H.out;have R:=(H.out).own;have O:=(H.out).lt.2.2.1;have V:Hid (D6 (b.alloc (.cells #[.int .i64 z,.string ⟨#[]⟩,.int .i64 0] 165)) q (P+2+4*is.length+4)):=WZ.out.mono O0;have W:Hid (But q w (b.alloc (.cells #[.int .i64 z,.string ⟨#[]⟩,.int .i64 0] 165))):=IV.out
            go_wp2_with (at_builtin;refine wpList_append_own _ rfl _ _ 124 rfl (X+1) 165 j0 (.agg #[.int .i64 0,.string ⟨#[]⟩,.int .i64 0]) 3 32 Tryz.underlying124 hi hz0 Q D rfl K3 _ _ _ rfl (R.alloc _) ⟨b.heap.size+1,0,none⟩ 1 1 [_,_,_] rfl rfl (Vh X0 _ _ _ _) (by intro u r;simp at r;rcases r with rfl | rfl | rfl <;> rfl) (by unfold maxLen;omega) O0 (by simp at O ⊢;omega) ?_;intro v' f m s _;have d:=U.out.app (x:=⟨z,⟨#[]⟩,0⟩) m s;have d1:f.cell? ⟨X,0,none⟩=some v:=(by rw [Lib.cell_of_heap d.2.1];rfl);have f1:f.frozen? ⟨X,0,none⟩=false:=Lib.frozen_of_heap d.2.1 0;have A:Hid (TB (f.setCell ⟨X,0,none⟩ v') (X+1) w.heap.size X v' (is++[⟨z,⟨#[]⟩,0⟩])):=d.1;have p:Hid (Below (X+1) (b.alloc (.cells #[.int .i64 z,.string ⟨#[]⟩,.int .i64 0] 165)) f):=d.2.2;obtain ⟨n,o,E⟩:=E9 m;subst E;clear s d m)
            go_roundw
            case rel=>
              refine ⟨k - 1,is++[⟨z,⟨#[]⟩,0⟩],_,by go_num,⟨J4,J4⟩,Le hsm.out (by show (⟨#[]⟩:ByteArray).size≤4000;decide),A,?_,?_⟩
              · have h:=J8 (V.out.H_ p.out O0) (by show q<X;omega) 0 (.slice n (is.length+1) o)
                have e:P+2+4*(is++[(⟨z,⟨#[]⟩,0⟩:I3)]).length=P+2+4*is.length+4:=J4;rw [Hid,e];exact h
              · exact U7 (W.out.H_ p.out O0) O0 _ _
            case measure=>simp [intOf];omega
          · go_wp2_with fail
            refine (X5 (b.alloc (.cells #[.int .i64 z,.string ⟨#[]⟩,.int .i64 0] 165)) q (P+2+4*is.length+1) 8 O0 O0 O0 WZ.out).mono ?_;rintro e j ⟨⟨l,rfl,aO,r58⟩,h5,F⟩;have H5:Hid (D6 j q (P+2+4*is.length+1+1)):=h5;have SY:Hid (But q w j):=IV.out.trans F.but;have TS:Hid (XI j b.heap.size z ⟨#[]⟩ 0):=lU.out.but F.but O0;have YS:Hid (TB j (X+1) w.heap.size X v is):=H.out.but F.but O0 O0 O0;have TY:Hid (XI (j.setCell ⟨b.heap.size,2,none⟩ (.int .i64 l)) b.heap.size z ⟨#[]⟩ l):=TS.out.set2;have I:Hid (TB (j.setCell ⟨b.heap.size,2,none⟩ (.int .i64 l)) (X+1) w.heap.size X v is):=YS.out.DI O0 O0 UW.out;have MZ:Hid (D6 (j.setCell ⟨b.heap.size,2,none⟩ (.int .i64 l)) q (P+2+4*is.length+1+1)):=J8 H5.out O0 _ _;have fU:Hid (But q w (j.setCell ⟨b.heap.size,2,none⟩ (.int .i64 l))):=U7 SY.out O0 _ _;obtain ⟨⟨a50,a51,a52⟩,fb1,fb2⟩:=TS.out.cells;obtain ⟨vc5,vf5,_,_⟩:=YS.out.cells;clear h5 F;obtain ⟨⟨i0c,i1c,i2c⟩,_,_⟩:=(TY.out).cells;obtain ⟨Z,Y,_,_⟩:=(I.out).cells;have U:Hid (TB (j.setCell ⟨b.heap.size,2,none⟩ (.int .i64 l)) (X+1) w.heap.size X v is):=I.out;have R:=(I.out).own;have O:=(I.out).lt.2.2.1;have V:Hid (D6 (j.setCell ⟨b.heap.size,2,none⟩ (.int .i64 l)) q (P+2+4*is.length+4)):=MZ.out.mono O0;have W:Hid (But q w (j.setCell ⟨b.heap.size,2,none⟩ (.int .i64 l))):=fU.out
            go_wp2_with (at_builtin;refine wpList_append_own _ rfl _ _ 124 rfl (X+1) 165 j0 (.agg #[.int .i64 0,.string ⟨#[]⟩,.int .i64 0]) 3 32 Tryz.underlying124 hi hz0 Q D rfl K3 _ _ _ rfl (R.alloc _) ⟨j.heap.size,0,none⟩ 1 1 [_,_,_] rfl rfl (Vh X0 _ _ _ _) (by intro u r;simp at r;rcases r with rfl | rfl | rfl <;> rfl) (by unfold maxLen;omega) O0 (by simp at O ⊢;omega) ?_;intro v' f m s _;have d:=U.out.app (x:=⟨z,⟨#[]⟩,l⟩) m s;have d1:f.cell? ⟨X,0,none⟩=some v:=(by rw [Lib.cell_of_heap d.2.1];rfl);have f1:f.frozen? ⟨X,0,none⟩=false:=Lib.frozen_of_heap d.2.1 0;have A:Hid (TB (f.setCell ⟨X,0,none⟩ v') (X+1) w.heap.size X v' (is++[⟨z,⟨#[]⟩,l⟩])):=d.1;have p:Hid (Below (X+1) (j.setCell ⟨b.heap.size,2,none⟩ (.int .i64 l)) f):=d.2.2;obtain ⟨n,o,E⟩:=E9 m;subst E;clear s d m)
            go_roundw
            case rel=>
              refine ⟨k - 1,is++[⟨z,⟨#[]⟩,l⟩],_,by go_num,⟨J4,J4⟩,Le hsm.out (by show (⟨#[]⟩:ByteArray).size≤4000;decide),A,?_,?_⟩
              · have h:=J8 (V.out.H_ p.out O0) (by show q<X;omega) 0 (.slice n (is.length+1) o)
                have e:P+2+4*(is++[(⟨z,⟨#[]⟩,l⟩:I3)]).length=P+2+4*is.length+4:=J4;rw [Hid,e];exact h
              · exact U7 (W.out.H_ p.out O0) O0 _ _
            case measure=>simp [intOf];omega
        · cases hut:Z7 z
          · go_wp2_with fail
            refine (qK q (P+2+4*is.length+1) (b.alloc (.cells #[.int .i64 z,.string ⟨#[]⟩,.int .i64 0] 165)) O0 WZ.out).mono ?_;rintro e c ⟨⟨tx,rfl,htx⟩,h4,t⟩;have H4:Hid (D6 c q (P+2+4*is.length+3)):=h4;have NR:Hid (But q w c):=IV.out.trans t;have XU:Hid (XI c b.heap.size z ⟨#[]⟩ 0):=lU.out.but t O0;have C:Hid (TB c (X+1) w.heap.size X v is):=H.out.but t O0 O0 O0;have UY:Hid (XI (c.setCell ⟨b.heap.size,1,none⟩ (.string tx)) b.heap.size z tx 0):=XU.out.set1;have mU:Hid (TB (c.setCell ⟨b.heap.size,1,none⟩ (.string tx)) (X+1) w.heap.size X v is):=C.out.DI O0 O0 UW.out;have VW:Hid (D6 (c.setCell ⟨b.heap.size,1,none⟩ (.string tx)) q (P+2+4*is.length+3)):=J8 H4.out O0 _ _;have MS:Hid (But q w (c.setCell ⟨b.heap.size,1,none⟩ (.string tx))):=U7 NR.out O0 _ _;obtain ⟨⟨a40,a41,a42⟩,fa1,fa2⟩:=XU.out.cells;clear h4 t lU H WZ IV;obtain ⟨vc4,vf4,_,_⟩:=C.out.cells;obtain ⟨⟨i0c,i1c,i2c⟩,_,_⟩:=(UY.out).cells;obtain ⟨Z,Y,_,_⟩:=(mU.out).cells;have U:Hid (TB (c.setCell ⟨b.heap.size,1,none⟩ (.string tx)) (X+1) w.heap.size X v is):=mU.out;have R:=(mU.out).own;have O:=(mU.out).lt.2.2.1;have V:Hid (D6 (c.setCell ⟨b.heap.size,1,none⟩ (.string tx)) q (P+2+4*is.length+4)):=VW.out.mono O0;have W:Hid (But q w (c.setCell ⟨b.heap.size,1,none⟩ (.string tx))):=MS.out
            go_wp2_with (at_builtin;refine wpList_append_own _ rfl _ _ 124 rfl (X+1) 165 j0 (.agg #[.int .i64 0,.string ⟨#[]⟩,.int .i64 0]) 3 32 Tryz.underlying124 hi hz0 Q D rfl K3 _ _ _ rfl (R.alloc _) ⟨c.heap.size,0,none⟩ 1 1 [_,_,_] rfl rfl (Vh X0 _ _ _ _) (by intro u r;simp at r;rcases r with rfl | rfl | rfl <;> rfl) (by unfold maxLen;omega) O0 (by simp at O ⊢;omega) ?_;intro v' f m s _;have d:=U.out.app (x:=⟨z,tx,0⟩) m s;have d1:f.cell? ⟨X,0,none⟩=some v:=(by rw [Lib.cell_of_heap d.2.1];rfl);have f1:f.frozen? ⟨X,0,none⟩=false:=Lib.frozen_of_heap d.2.1 0;have A:Hid (TB (f.setCell ⟨X,0,none⟩ v') (X+1) w.heap.size X v' (is++[⟨z,tx,0⟩])):=d.1;have p:Hid (Below (X+1) (c.setCell ⟨b.heap.size,1,none⟩ (.string tx)) f):=d.2.2;obtain ⟨n,o,E⟩:=E9 m;subst E;clear s d m)
            go_roundw
            case rel=>
              refine ⟨k - 1,is++[⟨z,tx,0⟩],_,by go_num,⟨J4,J4⟩,Le hsm.out (by show tx.size≤4000;omega),A,?_,?_⟩
              · have h:=J8 (V.out.H_ p.out O0) (by show q<X;omega) 0 (.slice n (is.length+1) o)
                have e:P+2+4*(is++[(⟨z,tx,0⟩:I3)]).length=P+2+4*is.length+4:=J4;rw [Hid,e];exact h
              · exact U7 (W.out.H_ p.out O0) O0 _ _
            case measure=>simp [intOf];omega
          · go_wp2_with fail
            refine (qK q (P+2+4*is.length+1) (b.alloc (.cells #[.int .i64 z,.string ⟨#[]⟩,.int .i64 0] 165)) O0 WZ.out).mono ?_;rintro e c ⟨⟨tx,rfl,htx⟩,h4,t⟩;have H4:Hid (D6 c q (P+2+4*is.length+3)):=h4;have NR:Hid (But q w c):=IV.out.trans t;have XU:Hid (XI c b.heap.size z ⟨#[]⟩ 0):=lU.out.but t O0;have C:Hid (TB c (X+1) w.heap.size X v is):=H.out.but t O0 O0 O0;have UY:Hid (XI (c.setCell ⟨b.heap.size,1,none⟩ (.string tx)) b.heap.size z tx 0):=XU.out.set1;have mU:Hid (TB (c.setCell ⟨b.heap.size,1,none⟩ (.string tx)) (X+1) w.heap.size X v is):=C.out.DI O0 O0 UW.out;have VW:Hid (D6 (c.setCell ⟨b.heap.size,1,none⟩ (.string tx)) q (P+2+4*is.length+3)):=J8 H4.out O0 _ _;have MS:Hid (But q w (c.setCell ⟨b.heap.size,1,none⟩ (.string tx))):=U7 NR.out O0 _ _;obtain ⟨⟨a40,a41,a42⟩,fa1,fa2⟩:=XU.out.cells;clear h4 t lU H WZ IV
            go_wp2_with fail
            refine (X5 (c.setCell ⟨b.heap.size,1,none⟩ (.string tx)) q (P+2+4*is.length+3) 8 O0 O0 O0 VW.out).mono ?_;rintro e j ⟨⟨l,rfl,aO,r58⟩,h5,F⟩;have H5:Hid (D6 j q (P+2+4*is.length+3+1)):=h5;have SY:Hid (But q w j):=MS.out.trans F.but;have TS:Hid (XI j b.heap.size z tx 0):=UY.out.but F.but O0;have YS:Hid (TB j (X+1) w.heap.size X v is):=mU.out.but F.but O0 O0 O0;have TY:Hid (XI (j.setCell ⟨b.heap.size,2,none⟩ (.int .i64 l)) b.heap.size z tx l):=TS.out.set2;have I:Hid (TB (j.setCell ⟨b.heap.size,2,none⟩ (.int .i64 l)) (X+1) w.heap.size X v is):=YS.out.DI O0 O0 UW.out;have MZ:Hid (D6 (j.setCell ⟨b.heap.size,2,none⟩ (.int .i64 l)) q (P+2+4*is.length+3+1)):=J8 H5.out O0 _ _;have fU:Hid (But q w (j.setCell ⟨b.heap.size,2,none⟩ (.int .i64 l))):=U7 SY.out O0 _ _;obtain ⟨⟨a50,a51,a52⟩,fb1,fb2⟩:=TS.out.cells;obtain ⟨vc5,vf5,_,_⟩:=YS.out.cells;clear h5 F;obtain ⟨⟨i0c,i1c,i2c⟩,_,_⟩:=(TY.out).cells;obtain ⟨Z,Y,_,_⟩:=(I.out).cells;have U:Hid (TB (j.setCell ⟨b.heap.size,2,none⟩ (.int .i64 l)) (X+1) w.heap.size X v is):=I.out;have R:=(I.out).own;have O:=(I.out).lt.2.2.1;have V:Hid (D6 (j.setCell ⟨b.heap.size,2,none⟩ (.int .i64 l)) q (P+2+4*is.length+4)):=MZ.out.mono O0;have W:Hid (But q w (j.setCell ⟨b.heap.size,2,none⟩ (.int .i64 l))):=fU.out
            go_wp2_with (at_builtin;refine wpList_append_own _ rfl _ _ 124 rfl (X+1) 165 j0 (.agg #[.int .i64 0,.string ⟨#[]⟩,.int .i64 0]) 3 32 Tryz.underlying124 hi hz0 Q D rfl K3 _ _ _ rfl (R.alloc _) ⟨j.heap.size,0,none⟩ 1 1 [_,_,_] rfl rfl (Vh X0 _ _ _ _) (by intro u r;simp at r;rcases r with rfl | rfl | rfl <;> rfl) (by unfold maxLen;omega) O0 (by simp at O ⊢;omega) ?_;intro v' f m s _;have d:=U.out.app (x:=⟨z,tx,l⟩) m s;have d1:f.cell? ⟨X,0,none⟩=some v:=(by rw [Lib.cell_of_heap d.2.1];rfl);have f1:f.frozen? ⟨X,0,none⟩=false:=Lib.frozen_of_heap d.2.1 0;have A:Hid (TB (f.setCell ⟨X,0,none⟩ v') (X+1) w.heap.size X v' (is++[⟨z,tx,l⟩])):=d.1;have p:Hid (Below (X+1) (j.setCell ⟨b.heap.size,2,none⟩ (.int .i64 l)) f):=d.2.2;obtain ⟨n,o,E⟩:=E9 m;subst E;clear s d m)
            go_roundw
            case rel=>
              refine ⟨k - 1,is++[⟨z,tx,l⟩],_,by go_num,⟨J4,J4⟩,Le hsm.out (by show tx.size≤4000;omega),A,?_,?_⟩
              · have h:=J8 (V.out.H_ p.out O0) (by show q<X;omega) 0 (.slice n (is.length+1) o)
                have e:P+2+4*(is++[(⟨z,tx,l⟩:I3)]).length=P+2+4*is.length+4:=J4;rw [Hid,e];exact h
              · exact U7 (W.out.H_ p.out O0) O0 _ _
            case measure=>simp [intOf];omega
open Proofs.Tryz
open G.T (F2 P6 F3 Y8)
def Ag (fs:List F2):List Value:=fs.flatMap fun x=>[.string x.nm,.string x.tx]
theorem M4 {p:Prop} (h:p):Hid p:=h
theorem Du (fs:List F2):(Ag fs).length=fs.length*2:=by induction fs <;> simp_all [Ag];omega
theorem fG (fs:List F2) (x:F2):Ag (fs++[x])=Ag fs++[.string x.nm,.string x.tx]:=by simp [Ag]
theorem Kl:Inf prog 39 2:=Ui U2
theorem Uf {w:World} {B:Nat} {xs:List Value} {t:TypeId} (h:B=w.heap.size):Cl (w.alloc (.cells xs.toArray t)) B t xs:=h▸U1 w xs t
theorem Nc {w:World} {base:Nat} {e:TypeId} {size n:Nat} {v:Value} {xs:List Value} (h:w.ownsRow base e size v n xs):∃ a c,v=.slice a n c:=by
 rcases h.2 with ⟨rfl,rfl⟩ | ⟨g,cap,cur,rfl,_⟩
 · exact ⟨_,_,rfl⟩
 exact ⟨_,_,rfl⟩
theorem ai {B:Nat} {w u u':World} {v:Value} (h:Below B w u) (g:u.grownBy u' v.ownBlock) (hz:B<=u.heap.size) (hv:∀ k,v.ownBlock=some k->B<=k):Below B w u':=
 ⟨g.os.trans h.os,g.tape.trans h.tape,g.output.trans h.output,Z4 h.size g.size,fun k a=>(g.block k O0 (fun e=>by have:=hv k e.symm;omega)).trans (h.block k a)⟩
structure W6 (w:World) (A v:Value) (gs:List F2) (u:World):Prop where
 b:Below w.heap.size w u
 h0:Cl u w.heap.size 25 [A]
 h1:Cl u (w.heap.size+1) 25 [.slice none 0 0]
 h2:Cl u (w.heap.size+1+1) 25 [v]
 ho:u.ownsRow (w.heap.size+3) 39 2 v gs.length (Ag gs)
theorem W6.below {w:World} {A v:Value} {gs:List F2} {u u':World} (h:W6 w A v gs u) (a:Below u.heap.size u u'):W6 w A v gs u':=
 ⟨h.b.trans (a.mono h.b.size),h.h0.below a h.h0.lt,h.h1.below a h.h1.lt,h.h2.below a h.h2.lt,ownsRow_below h.ho a⟩
theorem W6.app {w:World} {A v v':Value} {gs:List F2} {x:F2} {u u':World} (h:W6 w A v gs u) (d:u'.ownsRow (w.heap.size+3) 39 2 v' (gs.length+1) (Ag gs++[.string x.nm,.string x.tx])) (f:u.grownBy u' v.ownBlock):Below (w.heap.size+3) u u'/\W6 w A v' (gs++[x]) (u'.setCell ⟨w.heap.size+1+1,0,none⟩ v'):=by
 have k:∀ j,v.ownBlock=some j->w.heap.size+3<=j:=fun j e=>(h.ho.lt j e).1;have hB:=ai (F4 (w.heap.size+3) u) f h.h2.lt k;have c2:=h.h2.below hB O0;have c:=(F4 (w.heap.size+1+1) u').setCell (p:=⟨w.heap.size+1+1,0,none⟩) P9 v';have a:Below (w.heap.size+1+1) u _:=(hB.mono O0).trans c;refine ⟨hB,h.b.trans (a.mono O0),h.h0.below a O0,h.h1.below a O0,c2.set 0 v',?_⟩;rw [Q7,fG];exact Al d O0
def nq (nm:ByteArray) (y:F2):Bool:=!(y.nm.toList==nm.toList)
theorem qQ (a:Option Addr) (cap:Nat) (fs:List F2) (nm:ByteArray) (w:World) (hl:fs.length<=1000) (A:F3 w a fs):
 Calls prog 42 #[.agg #[.slice a fs.length cap],.string nm] w fun e w'=>(∃ v gs,e=.returned (.agg #[v])/\w'.ownsRow w.heap.size 39 2 v gs.length (Ag gs)/\gs.length<=fs.length/\(∀ x∈gs,x∈fs)/\gs=fs.filter (nq nm))/\Below w.heap.size w w':=by
 obtain ⟨b,f,t⟩:=Y8 A;have I:=M4 t;clear t A;go_enter func42,ntmps42
 go_wp2_with fail
 go_loopw [6] (fun i wr=>∃ (k:Nat) (v:Value) (gs:List F2),i=.int .i64 k/\k<=fs.length/\gs.length<=k/\Hid (gs=(fs.take k).filter (nq nm))/\Hid (W6 w (.slice a fs.length cap) v gs wr)) (fun i _=>fs.length - (intOf i).toNat)
 case atStart=>exact ⟨0,_,[],rfl,I5 _,Q6 _,rfl,⟨(bA.alloc X0 _).alloc J4 _,J_ (J_ (U1 w [_] 25) _) _,J_ (Uf (xs:=[_]) X0) _,Uf (xs:=[_]) X0,F9 _ _ _ _⟩⟩
 obtain ⟨k,v,gs,rfl,hk,hg,l,H⟩:=hrel;obtain ⟨va,m,rfl⟩:=Nc H.out.ho;have Q:=H.out.h0.cell 0;have E:=H.out.h1.cell 0;have f1:=H.out.h1.opn 0;have P:=H.out.h2.cell 0;dsimp only [List.getElem?_cons_zero] at Q E P;by_cases h:k<fs.length;rotate_left
 · go_wp2
   have O:=O7 wr ⟨w.heap.size+1,0,none⟩ (.slice va gs.length m) E;refine K4 (v:=.agg #[.slice va gs.length m]) (by simp [results,results42,go_sem,O]) rfl ⟨⟨_,gs,rfl,D5 (Al H.out.ho O0) O0,O0,(fun x hx=>by rw [l.out] at hx;exact Un (xm.1 hx).1),by rw [l.out,E_ O0]⟩,H.out.b.setCell X0 _⟩
 rcases I.out with L | ⟨N,z,n⟩
 · rw [L] at h;exact absurd h (F5 _)
 subst N;have g0:=(H.out.b.cell (p:=⟨b,f+k*2,none⟩) z).trans (n k h).1;have g1:=(H.out.b.cell (p:=⟨b,f+k*2+1,none⟩) z).trans (n k h).2;have F:Hid (fs.take (k+1)=fs.take k++[fs.getD k P6]):=by show _=_;rw [Rh h];simp [List.getD,h]
 generalize fs.getD k P6=x at*;clear n I;cases hne:(x.nm.toList==nm.toList);rotate_left
 · have s:Hid (gs=(fs.take (k+1)).filter (nq nm)):=by show _=_;rw [F.out,Qz,<- l.out];simp [nq,hne]
   go_wp2;go_roundw
   case rel=>exact ⟨k+1,_,gs,by go_num,O0,O0,s,H⟩
   case measure=>simp [intOf];omega
 go_wp2_with fail
 refine R8 (S:=fun u=>u.cell? ⟨w.heap.size+1+1,0,none⟩=some (.slice va gs.length m)/\u.cell? ⟨w.heap.size,0,none⟩=some (.slice (some ⟨b,f,none⟩) fs.length cap)/\u.cell? ⟨b,f+k*2,none⟩=some (.string x.nm)/\u.cell? ⟨b,f+k*2+1,none⟩=some (.string x.tx)) 10 U2 ?_ fun c=>?_
 · ((try dsimp only);go_keep)
 refine lq 0 c ?_;refine lq 1 c ?_;refine lq 2 c ?_;refine lq 3 c ?_;refine lq 4 c ?_;refine lq 5 c ?_
 try simp only [qq]
 refine lq 6 c ?_
 try simp only [qq]
 refine lr (i:=7) (o:=⟨some 30,.buildSlice 23 1 #[(0,.tmp 29)],23,_,_,none⟩) rfl K3 U2 fun K d=>?_;go_simp;obtain ⟨y,j⟩:∃ y:World,y=(wr.alloc (.cells #[.string x.nm,.string x.tx] 39)).drew:=⟨_,rfl⟩;rw [<- j];have q:Below wr.heap.size wr y:=by rw [j];exact bA.drew
 have s:Hid (Cl y wr.heap.size 39 [.string x.nm,.string x.tx]):=by show Cl _ _ _ _;rw [j];exact U1 wr _ 39
 have g:=M4 (H.out.below q);have hbz:=H.out.b.size;have D:=(q.cell (p:=⟨b,f+k*2,none⟩) (by show b<_;omega)).trans g0;have C:=(q.cell (p:=⟨b,f+k*2+1,none⟩) (by show b<_;omega)).trans g1;clear j c;refine Z6 d ?_ fun c=>?_
 · exact ⟨g.out.h2.cell 0,g.out.h0.cell 0,D,C⟩
 clear d K;refine lr (i:=8) (o:=⟨some 31,.call ⟨.builtin .append,#[.tmp 24,.tmp 30],#[23,23]⟩,23,_,_,none⟩) rfl K3 U2 fun K d=>?_;refine z_ rfl _ _ 23 rfl (w.heap.size+3) 39 2 underlying23 Kl K3 _ gs.length _ rfl g.out.ho _ 1 [.string x.nm,.string x.tx] rfl (.inr ⟨⟨wr.heap.size,0,none⟩,1,rfl,rfl,za s.out⟩) (by simp [Value.oneCell']) O0 g.out.h2.lt ?_;intro v' y2 r g2 _;obtain ⟨MX,OX,rfl⟩:=Nc r;obtain ⟨hB,B⟩:=g.out.app (x:=x) r g2;have c2:=g.out.h2.below hB O0;have R:=M4 B;clear B r g2 c;refine Z6 d ?_ fun c=>?_
 · exact ⟨c2.cell 0,(g.out.h0.below hB O0).cell 0,(hB.cell (by show b<_;omega)).trans D,(hB.cell (by show b<_;omega)).trans C⟩
 clear d K;refine lq 9 c ?_
 try simp only [qq]
 refine lz (o:=⟨none,.store 23 (.tmp 32) (.tmp 31),0,_,_,none⟩) rfl U2 fun K d=>?_;have J:=c2.cell 0;have zf:=c2.opn 0;dsimp only [List.getElem?_cons_zero] at J;go_simp;clear c;refine d.out _ _ ?_;clear d K
 try simp only [qq]
 refine l_ U2 ?_ _;go_wp2;go_roundw
 case rel=>exact ⟨k+1,_,gs++[x],by go_num,O0,J4,by show _=_;rw [F.out,Qz,<- l.out];simp [nq,hne],R⟩
 case measure=>simp [intOf];omega
end Go.Proofs.YtdjaajjndfbpmaaGreatDoor
