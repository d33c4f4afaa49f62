import Derived.Test.YtdjaajjndfbpmaaGreatDoorZ26
import Derived.Test.YtdjaajjndfbpmaaGreatDoorRG
import Derived.Test.YtdjaajjndfbpmaaGreatDoorZ17
set_option linter.unusedVariables false
set_option maxHeartbeats 8000000
set_option maxRecDepth 100000
namespace Go.Proofs.YtdjaajjndfbpmaaGreatDoor.G
open Proofs.Tryz
open Go.RowKit
variable {w w':World}
structure Um (w:World):Prop where
 g0:∃ t v,w.cell? ⟨6,0,none⟩=some (.iface t v)
 g1:∃ t v,w.cell? ⟨7,0,none⟩=some (.iface t v)
 g2:∃ t v,w.cell? ⟨8,0,none⟩=some (.iface t v)
 g6:w.cell? ⟨5,0,none⟩=some (.iface 236 (.agg #[.pointer (some ⟨15,113,none⟩)]))
theorem Um.pos (h:Um w):8<w.heap.size:=by
 obtain ⟨t,v,a⟩:=h.g2;rcases U5 8 w.heap.size with h | h
 · exact h
 simp [World.cell?,Yj h] at a
theorem Um.below (h:Um w) (a:Below w.heap.size w w'):Um w':=by
 have hp:=h.pos;obtain ⟨d,b,h0⟩:=h.g0;obtain ⟨t1,v1,h1⟩:=h.g1;obtain ⟨c,v2,h2⟩:=h.g2;exact ⟨⟨d,b,(a.cell (p:=⟨6,0,none⟩) (by show 6<w.heap.size;omega)).trans h0⟩,⟨t1,v1,(a.cell (p:=⟨7,0,none⟩) (by show 7<w.heap.size;omega)).trans h1⟩,⟨c,v2,(a.cell (p:=⟨8,0,none⟩) (by show 8<w.heap.size;omega)).trans h2⟩,(a.cell (p:=⟨5,0,none⟩) (by show 5<w.heap.size;omega)).trans h.g6⟩
theorem lF (l:List UInt8) (w:World) (hs:l.length<=1048700) (a:Z9 w):
 Calls prog 128 #[.string (Q3 l),.string ⟨#[32]⟩] w fun e w'=>(∃ y,e=.returned (.tuple #[.string (Q3 (O1 l)),.string (Q3 (I1 l)),.bool y]))/\Below w.heap.size w w':=by
 obtain ⟨_,m,a⟩:=a;refine (Tryz.strings_Cut (Q3 l) ⟨#[32]⟩ m w (by rw [J3];omega) a).mono ?_;rintro e w' ⟨rfl,n,rfl⟩;refine ⟨⟨(Lib.cut l [32]).2.2,?_⟩,below_drewN n⟩;rw [<- QG,<- QI];rfl
theorem EF (l:List UInt8) (w:World) (hs:l.length<=1048700) (a:Z9 w):
 Calls prog 128 #[.string (Q3 l),.string ⟨#[10]⟩] w fun e w'=>e=.returned (.tuple #[.string (Q3 (Lib.cut l [10]).1),.string (Q3 (Lib.cut l [10]).2.1),.bool (Lib.cut l [10]).2.2])/\Below w.heap.size w w':=by
 obtain ⟨_,m,a⟩:=a;refine (Tryz.strings_Cut (Q3 l) ⟨#[10]⟩ m w (by rw [J3];omega) a).mono ?_;rintro e w' ⟨rfl,n,rfl⟩;exact ⟨rfl,below_drewN n⟩
theorem Xt (l:List UInt8) (w:World) (hs:l.length<=1048700) (a:Z9 w):
 Calls prog 155 #[.string (Q3 l),.string ⟨#[32]⟩,.int .i64 3] w fun e w'=>(∃ cap,e=.returned (.slice (some ⟨w.heap.size,0,none⟩) (U6 l 2).length cap)/\K7 w' w.heap.size (U6 l 2))/\Below w.heap.size w w':=by
 obtain ⟨_,m,a⟩:=a;refine (Tryz.strings_SplitN (Q3 l) ⟨#[32]⟩ 3 m w (by rw [J3];omega) a K3 O0 O0).mono ?_;have c:Lib.splitB ⟨#[32]⟩ 0 (min 3 ((Q3 l).size+1) - 1) (Q3 l)=(U6 l 2).map Q3:=by
  refine Zu ?_;rw [qz ⟨#[32]⟩ 0 (min 3 ((Q3 l).size+1) - 1) (Q3 l),J3,<- IC l];rfl
 have hlen:(U6 l 2).length<=min 3 ((Q3 l).size+1):=by
  have:=Lib.splitB_length_le ⟨#[32]⟩ 0 (min 3 ((Q3 l).size+1) - 1) (Q3 l);rw [c,qc] at this;omega
 rintro e w' ⟨rfl,rfl⟩;rw [c];refine ⟨⟨_,by rw [qc],X0,fun i b=>?_⟩,bA⟩;have d:(Lib.cellsOf ((U6 l 2).map Q3) (min 3 ((Q3 l).size+1)))[i]?=some (.string (Q3 ((U6 l 2).getD i []))):=by
  unfold Lib.cellsOf;rw [List.getElem?_toArray,Eb (by simpa using b)];simp [b]
 rw [<- d];simp
theorem YN {u:World} (a:Below (w.heap.size+1) (w.alloc (.cells #[.string ⟨#[]⟩,.string ⟨#[]⟩,.string ⟨#[]⟩] 47)) u):
 (u.cell? ⟨w.heap.size,0,none⟩=some (.string ⟨#[]⟩)/\u.cell? ⟨w.heap.size,1,none⟩=some (.string ⟨#[]⟩)/\u.cell? ⟨w.heap.size,2,none⟩=some (.string ⟨#[]⟩))/\u.frozen? ⟨w.heap.size,0,none⟩=false/\u.frozen? ⟨w.heap.size,1,none⟩=false/\u.frozen? ⟨w.heap.size,2,none⟩=false:=by
 have c:∀ j,u.cell? ⟨w.heap.size,j,none⟩=(w.alloc (.cells #[.string ⟨#[]⟩,.string ⟨#[]⟩,.string ⟨#[]⟩] 47)).cell? ⟨w.heap.size,j,none⟩:=fun j=>a.cell X0;have f:∀ j,u.frozen? ⟨w.heap.size,j,none⟩=(w.alloc (.cells #[.string ⟨#[]⟩,.string ⟨#[]⟩,.string ⟨#[]⟩] 47)).frozen? ⟨w.heap.size,j,none⟩:=fun j=>a.frozen X0;rw [c,c,c,f,f,f];simp
theorem XB (l:List UInt8) (w:World) (a:l.length<=1048700):Calls prog 156 #[.string (Q3 l)] w fun e w'=>uA l e/\Below w.heap.size w w':=c156 (Q3 l) w (by rw [J3];exact a)
def VL (l:List UInt8) (e:Ending):Prop:=∃ (x:M3) (ok:Bool),e=.returned (.tuple #[x.v,.bool ok])/\uw l x ok
theorem sO (l:List UInt8) (w:World) (hs:l.length<=300) (hmx:Z9 w):
 Calls prog 129 #[.string (Q3 l)] w fun e w'=>VL l e/\Below w.heap.size w w':=by
 have d:(∀ y,W_ y=true->l≠Me y)->Hid (VL l (.returned (.tuple #[.agg #[.string ⟨#[]⟩,.string ⟨#[]⟩,.string ⟨#[]⟩],.bool false]))):=fun h=>⟨N7,false,rfl,kE h⟩;have E:Below w.heap.size w (w.alloc (.cells #[.string ⟨#[]⟩,.string ⟨#[]⟩,.string ⟨#[]⟩] 47)):=bA;go_enter func129,ntmps129
 go_wp2_with fail
 refine (Xt l _ O0 (f_ hmx E)).mono ?_;rintro e w1 ⟨⟨cap,rfl,hln⟩,hb1⟩;have K:Below (w.heap.size+1) (w.alloc (.cells #[.string ⟨#[]⟩,.string ⟨#[]⟩,.string ⟨#[]⟩] 47)) w1:=by simpa using hb1
 have hB1:=E.trans (K.mono O0);have u:Hid (K7 w1 (w.heap.size+1) (U6 l 2)):=by have h:=hln;simp at h;exact h
 clear hb1 hln;obtain ⟨⟨c,b,a⟩,m,k,j⟩:=YN K;by_cases o:(32:UInt8)∈l;rotate_left
 · have i:U6 l 2=[l]:=R_ _ o
   have g:=d (fun y J e=>o (qo J e).1.1);rw [i];clear d i o;simp only [u_,Mi];go_wp2;refine K4 (v:=.tuple #[.agg #[.string ⟨#[]⟩,.string ⟨#[]⟩,.string ⟨#[]⟩],.bool false]) (by simp [results,results129,go_sem,c,b,a]) rfl ⟨g.out,((hB1.setCell X0 _).setCell X0 _).setCell X0 _⟩
 by_cases D:(32:UInt8)∈I1 l;rotate_left
 · have i:U6 l 2=[O1 l,I1 l]:=by rw [T_ 1 o,R_ _ D]
   have g:=d (fun y J e=>D (qo J e).1.2);rw [i];clear d i o D;simp only [u_,Mi];go_wp2;refine K4 (v:=.tuple #[.agg #[.string ⟨#[]⟩,.string ⟨#[]⟩,.string ⟨#[]⟩],.bool false]) (by simp [results,results129,go_sem,c,b,a]) rfl ⟨g.out,((hB1.setCell X0 _).setCell X0 _).setCell X0 _⟩
 have i:U6 l 2=[O1 l,O1 (I1 l),I1 (I1 l)]:=by rw [T_ 1 o,T_ 0 D,Ld]
 rw [i] at u ⊢;have L:=u.out.1;have Z:w1.cell? ⟨w.heap.size+1,0,none⟩=some (.string (Q3 (O1 l))):=u.out.2 0 X0;have Y:w1.cell? ⟨w.heap.size+1,1,none⟩=some (.string (Q3 (O1 (I1 l)))):=u.out.2 1 X0;have p2:w1.cell? ⟨w.heap.size+1,2,none⟩=some (.string (Q3 (I1 (I1 l)))):=u.out.2 2 X0;have hr1:=p_ l;have hr2:=p_ (I1 l);have hbp:=fun (t:List UInt8) (ok:Bool) r=>Xw (l:=l) (t:=t) (ok:=ok) o D r;clear i;generalize hA:O1 l=A at*;generalize hR:I1 l=R at*;generalize hBB:O1 R=B at*;generalize hQ:I1 R=Q at*;simp only [u_,Mi]
 go_wp2_with fail
 refine (XB _ _ O0).mono ?_;rintro e z ⟨⟨t,ok,rfl,r⟩,H⟩;have q:=K.trans (H.mono O0);have I:=E.trans (q.mono O0);have hlt2:=D7 L H.size;have q0:=(H.cell (by exact L)).trans Z;have q1:=(H.cell (by exact L)).trans Y;have q0':=past (by exact hlt2) q0;have q1':=past (by exact hlt2) q1;clear c b a m k j Z Y p2 u;obtain ⟨⟨c,b,a⟩,m,k,j⟩:=YN q;have f:w.heap.size<z.heap.size:=O0;have U:=past (by exact f) c;have S:=past (by exact f) b;have P:=past (by exact f) a;have X:=Mc (by exact f) m;have W:=Mc (by exact f) k;have V:=Mc (by exact f) j;have x:=hbp t ok r;clear hbp;cases ok
 · have g:=d (x.2 X0)
   clear d x r
   go_wp2_with fail
   go_region
   all_goals
    go_wp2_with fail
    have F:=Pb z w.heap.size 0 (.string ⟨#[]⟩) (.string ⟨#[]⟩) (.string ⟨#[]⟩) _ _ _ c b a;simp only [R7] at F;have G0:=past (p:=⟨w.heap.size,0,none⟩) (by simpa using f) F.1;have G1:=past (p:=⟨w.heap.size,1,none⟩) (by simpa using f) F.2.1;have G2:=past (p:=⟨w.heap.size,2,none⟩) (by simpa using f) F.2.2;refine K4 (v:=.tuple #[.agg #[.string ⟨#[]⟩,.string ⟨#[]⟩,.string ⟨#[]⟩],.bool false]) (by simp [results,results129,go_sem,G0,G1,G2]) rfl ⟨g.out,?_⟩
    first
     | exact ((((I.setCell X0 _).setCell X0 _).setCell X0 _).alloc (by simpa using I.size) _).drew
     | exact (((I.setCell X0 _).setCell X0 _).setCell X0 _).alloc (by simpa using I.size) _
 have hQl:=r.1 rfl;have htl:t.length<=300:=by
  have:=zm t;rw [<- hQl] at this;omega
 have hle:(⟨Q3 A,Q3 B,Q3 t⟩:M3).le 1048700:=⟨by rw [J3];omega,by rw [J3];omega,by rw [J3];omega⟩;clear r;cases hk:W_ ⟨Q3 A,Q3 B,Q3 t⟩
 · have g:=d (x.2 (by rw [hk];simp))
   have O:=fun w'=>OJ hk w' hle;clear d x hk
   go_wp2_with fail
   go_region
   all_goals
    go_wp2_with fail
    refine (O _).mono ?_;rintro e n ⟨rfl,s⟩;have C:Below (w.heap.size+1) (w.alloc (.cells #[.string ⟨#[]⟩,.string ⟨#[]⟩,.string ⟨#[]⟩] 47)) n:=by
     refine Below.trans ?_ (s.mono J4)
     first | exact (q.alloc O0 _).drew | exact q.alloc O0 _
    have N:=E.trans (C.mono O0);clear c b a m k j U S P X W V;obtain ⟨⟨c,b,a⟩,m,k,j⟩:=YN C;go_wp2;refine K4 (v:=.tuple #[.agg #[.string ⟨#[]⟩,.string ⟨#[]⟩,.string ⟨#[]⟩],.bool false]) (by simp [results,results129,go_sem,c,b,a]) rfl ⟨g.out,((N.setCell X0 _).setCell X0 _).setCell X0 _⟩
 have g:Hid (VL l (.returned (.tuple #[.agg #[.string (Q3 A),.string (Q3 B),.string (Q3 t)],.bool true]))):=⟨⟨Q3 A,Q3 B,Q3 t⟩,true,rfl,x.1 rfl hk⟩;have O:=fun w'=>OJ hk w' hle;clear d x hk
 go_wp2_with fail
 go_region
 all_goals
  go_wp2_with fail
  refine (O _).mono ?_;rintro e n ⟨rfl,s⟩;have C:Below (w.heap.size+1) (w.alloc (.cells #[.string ⟨#[]⟩,.string ⟨#[]⟩,.string ⟨#[]⟩] 47)) n:=by
   refine Below.trans ?_ (s.mono J4)
   first | exact (q.alloc O0 _).drew | exact q.alloc O0 _
  have N:=E.trans (C.mono O0);have m0:n.cell? ⟨z.heap.size,0,none⟩=some (.string (Q3 A)):=by rw [s.cell X0];simp [go_sem]
  have m1:n.cell? ⟨z.heap.size,1,none⟩=some (.string (Q3 B)):=by rw [s.cell X0];simp [go_sem]
  have m2:n.cell? ⟨z.heap.size,2,none⟩=some (.string (Q3 t)):=by rw [s.cell X0];simp [go_sem]
  clear c b a m k j U S P X W V;obtain ⟨⟨c,b,a⟩,m,k,j⟩:=YN C;go_wp2;have F:=Pb n w.heap.size 0 (.string (Q3 A)) (.string (Q3 B)) (.string (Q3 t)) _ _ _ c b a;simp only [R7] at F;refine K4 (v:=.tuple #[.agg #[.string (Q3 A),.string (Q3 B),.string (Q3 t)],.bool true]) (by simp [results,results129,go_sem,F.1,F.2.1,F.2.2]) rfl ⟨g.out,((N.setCell X0 _).setCell X0 _).setCell X0 _⟩
theorem c127 (s:ByteArray) (w:World):
 Calls prog 127 #[.string s,.string ⟨#[10]⟩] w fun e w'=>(∃ n,e=.returned (.int .i64 n))/\w'=w:=by
 go_enter func127,ntmps127;go_wp2;rw [Tu func152 U2 U2 U2 (e:=Extern.BytealgCount.count) U2,Lib.run_countString];simp only [Result.andThen];rw [Oper.upon_value];go_wp2;go_ret;exact ⟨⟨_,rfl⟩,rfl⟩
structure Wq (w:World):Prop where
 va:Um w
 g3:∃ t v,w.cell? ⟨2,0,none⟩=some (.iface t v)
 g4:∃ t v,w.cell? ⟨3,0,none⟩=some (.iface t v)
 g5:∃ t v,w.cell? ⟨4,0,none⟩=some (.iface t v)
 mx:Z9 w
theorem Wq.below (h:Wq w) (a:Below w.heap.size w w'):Wq w':=by
 have hp:=h.va.pos;obtain ⟨g,d,h3⟩:=h.g3;obtain ⟨f,c,j⟩:=h.g4;obtain ⟨e,b,i⟩:=h.g5;exact ⟨h.va.below a,⟨g,d,(a.cell (p:=⟨2,0,none⟩) (by show 2<w.heap.size;omega)).trans h3⟩,⟨f,c,(a.cell (p:=⟨3,0,none⟩) (by show 3<w.heap.size;omega)).trans j⟩,⟨e,b,(a.cell (p:=⟨4,0,none⟩) (by show 4<w.heap.size;omega)).trans i⟩,f_ h.mx a⟩
def OI (w:World) (l:List UInt8) (e:Ending) (w':World):Prop:=∃ (ms:List M3) (v er:Value),e=.returned (.tuple #[v,er])/\w'.ownsRow w.heap.size 47 3 v ms.length (R5 ms)/\((er=.nilIface/\U9 l ms true)\/((∃ n ty va,er=.iface 160 (.agg #[.int .i64 n,.iface ty va]))/\U9 l [] false))
theorem Xp {l:List UInt8} (n:Int) (ty:TypeId) (va:Value) (h:U9 l [] false):OI w l (.returned (.tuple #[.slice none 0 0,.iface 160 (.agg #[.int .i64 n,.iface ty va])])) w':=⟨[],_,_,rfl,F9 _ _ _ _,.inr ⟨⟨n,ty,va,rfl⟩,h⟩⟩
theorem qE (s:ByteArray) (w:World) (hs:s.size<=1048576) (a:300<s.size) (hv:Wq w):
 Calls prog 92 #[.string s] w fun e w'=>OI w s.data.toList e w'/\Below w.heap.size w w':=by
 have b:Hid (U9 s.data.toList [] false):=Tg (by simpa using a);obtain ⟨t3,v3,g3⟩:=hv.g3;go_enter func92,ntmps92
 go_wp2_with fail
 go_region_with (go_at_call 127;refine (c127 _ _).mono ?_;rintro e w' ⟨⟨n,rfl⟩,rfl⟩)
 all_goals go_wp2
 all_goals go_ret2
 all_goals exact ⟨Xp _ _ _ b.out,by first | exact F4 _ _ | exact (F4 _ _).drew⟩
theorem jO (s:ByteArray) (b:UInt8) (w:World) (hs:s.size<=1048700):
 Calls prog 70 #[.string s,.int .u8 b.toNat] w fun e w'=>(∃ g m,e=.returned (.slice (some ⟨g,0,none⟩) (E8 b s.data.toList).length m)/\w'.ownsRow w.heap.size 9 1 (.slice (some ⟨g,0,none⟩) (E8 b s.data.toList).length m) (E8 b s.data.toList).length (Ll (E8 b s.data.toList)))/\Below w.heap.size w w':=by
 obtain ⟨A,H,D,C,B⟩:=Ze uB;have hlen:s.data.toList.length=s.size:=X0;go_enter func70,ntmps70
 go_wp2_with fail
 go_loopw [5,6,7] (fun v fr i wr=>∃ (k f:Nat),k<=s.size/\f<=k/\i=.int .i64 k/\fr=.int .i64 f/\wr.ownsRow w.heap.size 9 1 v (M5 b (s.data.toList.take k)).1.length (Ll (M5 b (s.data.toList.take k)).1)/\Hid ((s.data.toList.take k).drop f=(M5 b (s.data.toList.take k)).2)/\Below w.heap.size w wr/\w.heap.size+1<=wr.heap.size) (fun _ _ i _=>s.size - (intOf i).toNat)
 case atStart=>exact ⟨0,0,I5 _,Q6 _,rfl,rfl,Om _ #[] 0 P9 (I5 _) rfl,rfl,bA,X0⟩
 obtain ⟨k,f,hk,hf,rfl,rfl,d,h,l,J⟩:=hrel;have hL:(M5 b (s.data.toList.take k)).1.length<=k:=by
  have:=ko b (s.data.toList.take k);rw [Jk] at this;omega
 by_cases E:k<s.size;rotate_left
 · have O:Hid (s.data.toList.take k=s.data.toList):=E_ O0
   have x:Hid (s.extract f s.size=Q3 (M5 b (s.data.toList.take k)).2):=v_ (by rw [T9,<- show k=s.size by omega];exact h.out);have I:Hid (E8 b s.data.toList=(M5 b (s.data.toList.take k)).1++[(M5 b (s.data.toList.take k)).2]):=by rw [O.out];rfl
   clear h;generalize M5 b (s.data.toList.take k)=st at*
   go_wp2_with (at_builtin;refine wpList_append_own _ rfl _ _ 79 rfl w.heap.size 9 A (.string ⟨#[]⟩) 1 16 underlying79 H D C B rfl K3 _ _ _ rfl (d.alloc _) ⟨wr.heap.size,0,none⟩ 1 1 [_] rfl rfl (cell_one_new _ _ _) (by intro u c;simp at c;subst c;rfl) (by unfold maxLen;omega) O0 J4 ?_;intro v' z o p _;obtain ⟨g,m,K⟩:=Ug o O0;subst K)
   go_ret;have t:=(l.alloc l.size _).grown p J4 (fun j r=>(d.lt j r).1);have L:z.ownsRow w.heap.size 9 1 (.slice (some ⟨g,0,none⟩) (st.1.length+1) m) (st.1.length+1) (Ll (E8 b s.data.toList)):=by
    rw [I.out,Df,<- x.out];exact o
   have F:(E8 b s.data.toList).length=st.1.length+1:=by rw [I.out];simp
   refine ⟨⟨g,m,by rw [F];rfl,by rw [F];exact L⟩,t⟩
 have q:Hid (M5 b (s.data.toList.take (k+1))=cst b (M5 b (s.data.toList.take k)) s[k]):=by rw [d_ s k E,vo];rfl
 have x:Hid (s.extract f k=Q3 (M5 b (s.data.toList.take k)).2):=v_ (by rw [T9];exact h.out);by_cases a:s[k]=b
 · have N:((s[k].toNat:Int)==(b.toNat:Int))=true:=by rw [a];simp
   have n:Hid (cst b (M5 b (s.data.toList.take k)) s[k]=((M5 b (s.data.toList.take k)).1++[(M5 b (s.data.toList.take k)).2],[])):=by unfold cst;rw [if_pos a];rfl
   have y:Hid ((s.data.toList.take (k+1)).drop (k+1)=[]):=Wj J4;clear a h;generalize M5 b (s.data.toList.take k)=st at*
   go_wp2_with (at_builtin;refine wpList_append_own _ rfl _ _ 79 rfl w.heap.size 9 A (.string ⟨#[]⟩) 1 16 underlying79 H D C B rfl K3 _ _ _ rfl (d.alloc _) ⟨wr.heap.size,0,none⟩ 1 1 [_] rfl rfl (cell_one_new _ _ _) (by intro u c;simp at c;subst c;rfl) (by unfold maxLen;omega) O0 J4 ?_;intro v' z o p _)
   go_roundw
   case rel=>
    have t:=(l.alloc l.size _).grown p J4 (fun j r=>(d.lt j r).1);refine ⟨k+1,k+1,O0,Q6 _,by go_num,by go_num,?_,?_,t,by have:=p.size;simp at this;omega⟩
    · rw [q.out,n.out,Q7,Df,<- x.out]
      exact o
    rw [q.out,n.out];exact y.out
   case measure=>simp [intOf];omega
 have N:((s[k].toNat:Int)==(b.toNat:Int))=false:=by
  simp only [Gi];intro e;exact a (Hg.1 O0)
 have n:Hid (cst b (M5 b (s.data.toList.take k)) s[k]=((M5 b (s.data.toList.take k)).1,(M5 b (s.data.toList.take k)).2++[s[k]])):=by unfold cst;rw [if_neg a];rfl
 have y:Hid ((s.data.toList.take (k+1)).drop f=(s.data.toList.take k).drop f++[s[k]]):=by rw [d_ s k E,RA J4];rfl
 clear a;generalize M5 b (s.data.toList.take k)=st at*;go_wp2;go_roundw
 case rel=>
  refine ⟨k+1,f,O0,O0,by go_num,rfl,?_,?_,l,J⟩
  · rw [q.out,n.out];exact d
  rw [q.out,n.out,y.out,h.out];rfl
 case measure=>simp [intOf];omega
theorem own_ne {B B' e c size f n i:Nat} {v v':Value} {xs d:List Value} (h:w.ownsRow B e size v n xs) (l:w.ownsRow B' c f v' i d) (j:e≠c):v.ownBlock=none\/v.ownBlock≠v'.ownBlock:=by
 rcases h.2 with ⟨rfl,_⟩ | ⟨g,cap,cur,rfl,_,k,_⟩
 · exact .inl rfl
 rcases l.2 with ⟨rfl,_⟩ | ⟨g',cap',cur',rfl,_,a,_⟩
 · exact .inr (by simp [Value.ownBlock])
 refine .inr fun b=>?_;simp only [Value.ownBlock,Qv] at b;subst b;rw [k] at a;simp only [Qv,Obj.cells.injEq] at a;exact j a.2.1
theorem fJ (l:List UInt8) (w:World) (a:l.length<=1048700):
 Calls prog 72 #[.string (Q3 l)] w fun e w'=>(∃ t,e=.returned (.string (Q3 t))/\t.length<=l.length+1/\∀ q,l=V4 q->t=q)/\Below w.heap.size w w':=by
 have:=c72 (Q3 l) w (by rw [J3];exact a);rw [J3] at this;exact this
theorem XO (l:List UInt8) (w:World) (a:l.length<=1048700):
 Calls prog 71 #[.string (Q3 l),.int .i64 3] w fun e w'=>(∃ g b,e=.returned (.tuple #[.slice (some ⟨g,0,none⟩) 3 b,.string (Q3 (Ka l 3))])/\w.heap.size<=g/\K7 w' g (qg l 3))/\Below w.heap.size w w':=bP (Q3 l) w (by rw [J3];exact a)
theorem Td {ms:List M3} {x:M3} {B:Nat} (h:∀ j,(ms.getD j N7).le B) (hx:x.le B) (j:Nat):((ms++[x]).getD j N7).le B:=by
 rcases yo j ms.length with a | a | a
 · have:(ms++[x]).getD j N7=ms.getD j N7:=by simp [List.getD,Eb a]
   rw [this];exact h j
 · subst a
   have:(ms++[x]).getD ms.length N7=x:=by simp [List.getD]
   rw [this];exact hx
 have:(ms++[x]).getD j N7=N7:=by simp [List.getD,Xe (show (ms++[x]).length<=j by simp;omega)]
 rw [this];exact ⟨I5 _,I5 _,I5 _⟩
theorem cell_grown {row:Option Nat} (c:w.grownBy w' row) {p:Addr} (a:p.block<w.heap.size) (b:some p.block≠row):w'.cell? p=w.cell? p:=by
 unfold World.cell?;rw [c.block p.block a b]
def vP (l:List UInt8) (e:Ending) (w':World):Prop:=∃ (ms:List M3) (ok:Bool) (a:Option Addr) (cap:Nat),e=.returned (.tuple #[.slice a ms.length cap,.bool ok])/\Ad w' a ms/\U9 l ms ok
theorem vQ (s:ByteArray) (w:World) (hs:s.size<=1048576):
 Calls prog 44 #[.string s] w fun e w'=>vP s.data.toList e w'/\Below w.heap.size w w':=by
 have hlen:s.data.toList.length=s.size:=X0;obtain ⟨i0,hi,hz0,hz1,hz2⟩:=Ze SG;by_cases xR:300<s.size
 · have q:Hid (U9 s.data.toList [] false):=Tg O0
   go_enter func44,ntmps44;go_wp2;go_ret2;exact ⟨⟨[],false,_,_,rfl,.inl rfl,q.out⟩,bA⟩
 go_enter func44,ntmps44
 go_wp2_with fail
 refine (jO s 10 _ O0).mono ?_;rintro e w1 ⟨⟨g,Z,rfl,V⟩,z⟩;have hx1:=bA.trans (z.mono X0);have hz1':w.heap.size+1<=w1.heap.size:=by have:=z.size;simpa using this
 have a0N:w1.ownsRow w.heap.size 47 3 (.slice (some ⟨w.heap.size,0,none⟩) 0 0) 0 (R5 []):=ownsRow_below (Om _ #[] 0 P9 (I5 _) rfl) z;have a2v:w1.ownsRow w.heap.size 9 1 (.slice (some ⟨g,0,none⟩) (E8 10 s.data.toList).length Z) (E8 10 s.data.toList).length (Ll (E8 10 s.data.toList)):=D5 V X0;obtain ⟨hn1,hn2⟩:=Np 10 s.data.toList;have HCS:=Q0 (zn 10 s.data.toList);clear z V
 go_wp2_with fail
 generalize hLs:E8 10 s.data.toList=b at*;have H:=Q0 hLs;clear hLs;go_loopw [4,6] (fun v i wr=>∃ (k:Nat) (ms:List M3),k+1<=b.length/\i=.int .i64 k/\ms.length=k/\Hid (Di s.data.toList ms k)/\Hid (∀ j,(ms.getD j N7).le 1048576)/\wr.ownsRow w.heap.size 47 3 v ms.length (R5 ms)/\wr.ownsRow w.heap.size 9 1 (.slice (some ⟨g,0,none⟩) b.length Z) b.length (Ll b)/\Below w.heap.size w wr/\w.heap.size+1<=wr.heap.size) (fun _ i _=>b.length - (intOf i).toNat)
 case atStart=>exact ⟨0,[],O0,rfl,rfl,Ni _,(fun j=>⟨I5 _,I5 _,I5 _⟩),a0N,a2v,hx1,hz1'⟩
 obtain ⟨k,ms,hk,rfl,wY,O,htx,n,R,Y,UR⟩:=hrel;subst wY;obtain ⟨ao,co,hv⟩:=E9 n;subst hv;by_cases hlt:ms.length+1<b.length;rotate_left
 · obtain ⟨E1,E2⟩:=Qm O.out rfl (by rw [H.out];omega) O0
   have J:=Q0 E1;have I:=Q0 E2;clear E1 E2;obtain ⟨ao',cap',hv',D⟩:=J7 n;injection hv' with h1 h2 h3;subst h1 h3;have HAT:=Q0 D;have hmm:ms.length<=1048576:=O0;have HC:=c64 ao co ms wr htx.out hmm D;clear D
   go_wp2_with fail
   refine HC.mono ?_;rintro e w5 ⟨rfl,X⟩;have E:=bT Y X;have a2w:=Q0 (X_ HAT.out X);clear HC;by_cases f:Db ms=s.data.toList
   · have q:=Q0 (J.out f)
     have o:(Q3 (Db ms)).toList=s.toList:=by rw [f,I7,I7];rfl
     have F:((Q3 (Db ms)).toList==s.toList)=true:=by simpa using o
     clear J I f;go_wp2;go_ret2;exact ⟨⟨ms,true,_,_,rfl,a2w.out,q.out⟩,E⟩
   have q:=Q0 (I.out f);have o:¬ (Q3 (Db ms)).toList=s.toList:=by rw [I7,I7];simpa [Q3] using f
   have F:((Q3 (Db ms)).toList==s.toList)=false:=by simpa using o
   clear J I f;go_wp2;go_ret2;exact ⟨⟨[],false,_,_,rfl,.inl rfl,q.out⟩,E.alloc E.size _⟩
 have U:=je R rfl;have l0:=U.2 ms.length O0;have hLl:=HCS.out ms.length;have a2x:=fun (t:List UInt8) ht=>parsed (l:=b.getD ms.length []) (t:=t) ht;generalize hL:b.getD ms.length []=L at*;have HL:=Q0 hL;clear hL;have hiB:(ms.length:Int)<(b.length:Int):=O0
 go_wp2_with fail
 refine (XO L _ O0).mono ?_;rintro e r ⟨⟨g2,cp2,rfl,hg2,x⟩,y⟩;have hB2:=bT Y y;have hown2:=ownsRow_below n y;have hrow2:=ownsRow_below R y;have hz2':=Z4 UR y.size;have q1:r.cell? ⟨g2,1,none⟩=some (.string (Q3 (O1 (Ka L 1)))):=x.2 1 (by simp [qg]);have q2:r.cell? ⟨g2,2,none⟩=some (.string (Q3 (O1 (Ka L 2)))):=x.2 2 (by simp [qg]);have W:=x.1;have r1:=Fj L 1;have r2:=Fj L 2;have r3:=Fj L 3;have r1':=(p_ (Ka L 1)).1;have r2':=(p_ (Ka L 2)).1;generalize hA:O1 (Ka L 1)=A at*;generalize hBB:O1 (Ka L 2)=B at*;generalize hQ:Ka L 3=Q at*;clear hA hBB hQ x U l0
 go_wp2_with fail
 refine F7 (S:=(fun u=>u.cell? ⟨g2,1,none⟩=some (.string (Q3 A))/\u.cell? ⟨g2,2,none⟩=some (.string (Q3 B)))) U2 ?_ fun a=>?_
 · ((try dsimp only);go_keep)
 refine tq 0 a ?_;refine tq 1 a ?_;refine tq 2 a ?_;refine tq 3 a ?_;refine tq 4 a ?_;refine tq 5 a ?_;refine tq 6 a ?_;refine I4 7 a ?_;refine rq 8 fun K c=>?_;go_simp;refine (fJ Q _ O0).mono ?_;rintro e m ⟨⟨t,rfl,htl,DY⟩,hb3⟩;have h:Hid (Below r.heap.size r m):=(F4 _ _).drew.trans hb3;have F:=(h.out.cell (p:=⟨g2,1,none⟩) (by exact W)).trans q1;have o:=(h.out.cell (p:=⟨g2,2,none⟩) (by exact W)).trans q2;have C:=ownsRow_below hown2 h.out;have P:=ownsRow_below hrow2 h.out;have a4p:=h.out.size;have e1a:=past (by show g2<m.heap.size;omega) F;have e2a:=past (by show g2<m.heap.size;omega) o
 go_wp2_with fail
 clear a;refine Ls c fun a=>?_;clear c K;refine I4 9 a ?_;refine rq 10 fun K c=>?_;go_simp;clear a;refine CP c fun a=>?_;clear c K;refine rq 11 fun K c=>?_;refine yl rfl (.tmp 31) (.tmp 41) 44 rfl w.heap.size 47 i0 (.agg #[.string ⟨#[]⟩,.string ⟨#[]⟩,.string ⟨#[]⟩]) 3 48 underlying44 hi hz0 hz1 hz2 rfl K3 _ _ _ rfl (C.alloc _) ⟨m.heap.size,0,none⟩ 1 1 [_,_,_] rfl rfl (Vh rfl _ _ _ _) (by intro u N;simp at N;rcases N with rfl | rfl | rfl <;> rfl) (by unfold maxLen;omega) O0 J4 ?_;intro v' w4 IR d;have hB4:=Q0 ((((bT hB2 h.out).alloc O0 _).grown d J4 (fun j hj=>(C.lt j hj).1)));have hrow4:=Q0 ((P.alloc _).kept d (own_ne P C K3));have f1:=(cell_grown d (p:=⟨g2,1,none⟩) J4 (fun e=>by have:=(n.lt _ e.symm).2;simp at this;omega)).trans (e1a _);have f2:=(cell_grown d (p:=⟨g2,2,none⟩) J4 (fun e=>by have:=(n.lt _ e.symm).2;simp at this;omega)).trans (e2a _);have ES:m.heap.size+1<=w4.heap.size:=by have:=d.size;simp at this;omega
 clear d;clear a;refine Ls c fun a=>?_;clear c K;refine I4 12 a ?_;refine a_ ?_;clear a;have HSO:=Q0 (Vd O.out (by rw [H.out];exact hlt) (by rw [H.out,HL.out];exact a2x t DY));have HTX:Hid (∀ j,((ms++[(⟨Q3 A,Q3 B,Q3 t⟩:M3)]).getD j N7).le 1048576):=Td htx.out ⟨by rw [J3];omega,by rw [J3];omega,by rw [J3];omega⟩;go_wp2;go_roundw
 case rel=>
  refine ⟨ms.length+1,ms++[(⟨Q3 A,Q3 B,Q3 t⟩:M3)],O0,by go_num,X0,HSO,HTX,?_,hrow4.out,hB4.out,O0⟩;rw [Mh,Q7];exact IR
 case measure=>simp [intOf];omega
end Go.Proofs.YtdjaajjndfbpmaaGreatDoor.G
