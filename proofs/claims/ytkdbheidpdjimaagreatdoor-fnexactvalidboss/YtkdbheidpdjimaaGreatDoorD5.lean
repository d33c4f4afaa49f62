import Derived.Test.YtkdbheidpdjimaaGreatDoorC3
import Derived.Deep.QuietTactic
import Derived.BigQuiet
set_option linter.unusedVariables false
set_option maxHeartbeats 8000000
set_option maxRecDepth 100000
namespace Go.Proofs.YtkdbheidpdjimaaGreatDoor
open Proofs.Tryz Go.RowKit
variable {w w':World} {a:OA} {ss:LB} {P:Prop}
theorem drop2 (s:BY):s.extract 2 s.size=Y2 (s.data.toList.drop 2):=by
 apply qg;apply Rl.1;simp [Y2];exact u_ I4
theorem c206 (s:BY) (w:World) (hs:s.size<=1048700):
 Calls prog 206 #[.string s] w fun e w'=>DN s.data.toList e/\Bw w w':=by
 have p:s.data.toList.length=s.size:=I4;have j:Bw w (w.alloc (.cells #[vO,vE] 103)):=(Z4 w.heap.size w).alloc x9 _;have a:lD s.data.toList 0 [] false->Hid (DN s.data.toList (.returned (.tuple #[.agg #[vO,vE],.bool false]))):=fun h=>⟨0,[],false,rfl,h,D5 _⟩;by_cases h2:s.size<2
 · have b:=a (DL O0);clear a p;go_enter func206,ntmps206;go_wp2;refine P7 (v:=.tuple #[.agg #[vO,vE],.bool false]) (by simp [results,results206,go_sem]) rfl ⟨b.out,j⟩
 have h0:0<s.size:=O0;have i:=Ep s h0;by_cases hd:(s[0].toNat:Int)<48\/57<(s[0].toNat:Int)
 · have b:=a (AL (by rw [i];exact hd));clear a p i;rcases hd with hd | hd
   all_goals
    go_enter func206,ntmps206;go_wp2;refine P7 (v:=.tuple #[.agg #[vO,vE],.bool false]) (by simp [results,results206,go_sem]) rfl ⟨b.out,j⟩
 · have r:48<=(s[0].toNat:Int)/\(s[0].toNat:Int)<=57:=O0;have hw:=jo _ r;have g:=WN (l:=s.data.toList) (x:=s[0]) (c:=(s[0].toNat:Int) - 48) O0 i O0 O0;have hx:=drop2 s;clear i hd;have q:(s.data.toList.drop 2).length<=s.data.toList.length:=I4;generalize hT:s.data.toList.drop 2=T at g hx q;clear hT;have k:=c162 ((s[0].toNat:Int) - 48) (Y2 T);rw [Eo,J5] at k;generalize hL:s.data.toList=L at*;generalize hC:(s[0].toNat:Int) - 48=C at*;obtain ⟨d1,d2⟩:=r;go_enter func206,ntmps206
   go_wp2_with fail
   go_region
   all_goals
    go_wp2_with fail
    refine (k _ O0).mono ?_;rintro e d ⟨rfl,f⟩;have hz3:w.heap.size+2<=d.heap.size:=by have:=f.size;simp at this;omega
    have o:Below (w.heap.size+1) (w.alloc (.cells #[vO,vE] 103)) d:=by
     refine Below.trans ?_ (f.mono I4)
     first | exact ((Z4 _ _).alloc I4 _).drew | exact (Z4 _ _).alloc I4 _
    have t:=j.trans (o.mono O0);have r0:d.cell? (aA (w.heap.size+1) 0)=some (vI C):=by rw [f.cell I4];simp [go_sem]
    have r1:d.cell? (aA (w.heap.size+1) 1)=some (vS (Y2 T)):=by rw [f.cell I4];simp [go_sem]
    obtain ⟨⟨n,m⟩,y0,y1⟩:=rz2 o;clear f k;by_cases hf:l7 C T=L
    · have b:Hid (DN L (.returned (.tuple #[.agg #[vI C,vS (Y2 T)],.bool true]))):=⟨C,T,true,rfl,g.1 hf,q⟩;have e1:((Y2 (l7 C T)).toList==s.toList)=true:=by rw [hf,ByteArray.toList_eq,ByteArray.toList_eq,Eo,hL];simp
      have u:(Y2 (l7 C T)).toList=s.toList:=by simpa using e1
      clear a g hf;go_wp2;have F:=Sl d w.heap.size (vI C) (vS (Y2 T)) _ _ n m;refine P7 (v:=.tuple #[.agg #[vI C,vS (Y2 T)],.bool true]) (by simp [results,results206,go_sem,F.1,F.2]) rfl ⟨b.out,?_⟩;exact ((t.setCell I4 _).setCell I4 _)
    · have b:=a (g.2 hf);have u:¬ (Y2 (l7 C T)).toList=s.toList:=by rw [ByteArray.toList_eq,ByteArray.toList_eq,Eo,hL];exact hf
      have e1:((Y2 (l7 C T)).toList==s.toList)=false:=by simpa using u
      clear a g hf;go_wp2;have F:=Sl d w.heap.size vO vE _ _ n m;refine P7 (v:=.tuple #[.agg #[vO,vE],.bool false]) (by simp [results,results206,go_sem,F.1,F.2]) rfl ⟨b.out,?_⟩;exact ((t.setCell I4 _).setCell I4 _)
def y8 (w:World) (a:OA) (ss:LB):Prop:=
 ss=[]\/∃ b off,a=some ⟨b,off,none⟩/\b<w.heap.size/\∀ i,i<ss.length->w.cell? ⟨b,off+i,none⟩=some (.string (ss.getD i ByteArray.empty))
theorem info9:(prog.info? 9).map (fun i=>(i.zero,i.size,i.bytes))=some (some (.string ⟨#[]⟩),1,16):=J3
theorem Q_ (h:y8 w a ss):∃ b off,(ss=[]\/(a=some ⟨b,off,none⟩/\b<w.heap.size/\∀ i,i<ss.length->w.cell? ⟨b,off+i,none⟩=some (.string (ss.getD i ByteArray.empty)))):=by
 rcases h with h | ⟨b,off,h⟩
 · exact ⟨0,0,.inl h⟩
 · exact ⟨b,off,.inr h⟩
theorem Z5 (h:y8 w a ss) (c:Bw w w'):y8 w' a ss:=by
 rcases h with h | ⟨b,off,h1,h2,e⟩
 · exact .inl h
 · exact .inr ⟨b,off,h1,m_ h2 c.size,fun i d=>by rw [c.cell (by exact h2)];exact e i d⟩
theorem UH {B:Nat} (h:∀ i,i<ss.length->(ss.getD i ByteArray.empty).size<=B) (i:Nat):(ss.getD i ByteArray.empty).size<=B:=by
 rcases o8 i ss.length with a | a
 · exact h i a
 · have e:ss.getD i ByteArray.empty=ByteArray.empty:=by simp [List.getD,Ec a]
   rw [e];exact D5 _
theorem c13 (a:OA) (o:Nat) (ss:LB) (l:Int) (w:World) (h0:0<=l) (h1:l<=1048576) (m:∀ i,(ss.getD i ByteArray.empty).size<=9223372036854775807) (hl:ss.length<=9223372036854775807) (j:y8 w a ss):
 Calls prog 13 #[.slice a ss.length o,.int .i64 l] w fun e w'=>(∃ r:Int,e=.returned (.int .i64 r)/\(0<=r->ss.length<=1048576/\(∀ i,(ss.getD i ByteArray.empty).size<=1048576)/\r<=l - ss.length))/\w'=w:=by
 obtain ⟨b,off,hc⟩:=Q_ j;have s:=U0 hc;clear hc j;by_cases hbig:l<ss.length
 · go_enter func13,ntmps13;go_wp2;go_ret;exact ⟨⟨-1,rfl,fun h=>O0⟩,rfl⟩
 · go_enter func13,ntmps13
   go_wp2_with fail
   go_loop [1,5] (fun q i=>∃ (k:Nat) (r:Int),k<=ss.length/\i=.int .i64 k/\q=.int .i64 r/\0<=r/\r<=l - ss.length/\Hid (∀ i,i<k->(ss.getD i ByteArray.empty).size<=1048576)) (fun _ i=>ss.length - (intOf i).toNat)
   case atStart=>exact ⟨0,_,D5 _,rfl,rfl,O0,O0,fun i h=>absurd h (o9 _)⟩
   case round=>
    obtain ⟨k,r,hk,rfl,rfl,hr0,n,d⟩:=hrel;by_cases f:k<ss.length
    · obtain ⟨ha,hbw,g⟩:=Nc s.out f;subst ha;have g0:=g k f;have hxs:=m k;generalize hx:ss.getD k ByteArray.empty=x at*;have p:=U0 hx;clear hx g;by_cases hneg:r<x.size
      · go_wp2;go_ret;exact ⟨⟨-1,rfl,fun h=>O0⟩,rfl⟩
      · have c:Hid (∀ i,i<k+1->(ss.getD i ByteArray.empty).size<=1048576):=by
         intro i h;rcases o8 i k with h1 | h1
         · exact d.out i h1
         · obtain rfl:i=k:=O0;rw [p.out];omega
        go_wp2
        go_round
        case rel=>exact ⟨k+1,_,O0,by go_num,rfl,O0,O0,c⟩
        case measure=>simp [intOf];omega
    · have c:=U0 (UH (fun i h=>d.out i O0));go_wp2;go_ret;exact ⟨⟨r,rfl,fun _=>⟨O0,c.out,n⟩⟩,rfl⟩
theorem c31 (a:OA) (z:Nat) (ss:LB) (w:World) (hl:ss.length<=1048576) (o:y8 w a ss):
 Calls prog 31 #[.slice a ss.length z] w fun e w'=>(e=.returned (.slice (some ⟨w.heap.size,0,none⟩) ss.length ss.length)/\y8 w' (some ⟨w.heap.size,0,none⟩) ss)/\Bw w w':=by
 obtain ⟨b,off,hc⟩:=Q_ o;have B:=U0 hc;clear hc o;obtain ⟨p,g,s,r,q⟩:=info_parts info9;have hmk:∀ u:World,(Instr.makeSlice 22 (vI (ss.length:Int)) (vI (ss.length:Int))).run prog u=
  .ok (vL (some ⟨u.heap.size,0,none⟩) ss.length ss.length) (u.alloc (.cells (madeCells #[vE] ss.length) 9)):=fun u=>by
  have h:=Vm (P:=prog) u 22 9 p vE underlying22 g s .i64 .i64 (ss.length:Int) (ss.length:Int) O0 (Ak _) (by rw [q];omega) O0;simpa [r,Value.cells] using h
 go_enter func31,ntmps31
 go_wp2_with fail
 go_loopw [4] (fun i wr=>∃ (k:Nat),k<=ss.length/\i=.int .i64 k/\Below w.heap.size w wr/\w.heap.size+1<=wr.heap.size/\(∀ j,wr.frozen? ⟨w.heap.size,j,none⟩=false)/\Hid (∀ j,j<k->wr.cell? ⟨w.heap.size,j,none⟩=some (.string (ss.getD j ByteArray.empty)))/\Hid (∀ j,k<=j->j<ss.length->wr.cell? ⟨w.heap.size,j,none⟩=some (.string ⟨#[]⟩))) (fun i _=>ss.length - (intOf i).toNat)
 case atStart=>
  refine ⟨0,D5 _,rfl,o7,I4,fun j=>I4,fun j h=>absurd h (o9 _),fun j _ h=>?_⟩;have e:(madeCells #[Value.string ⟨#[]⟩] ss.length)[j]?=some vE:=by
   rw [<- Array.getElem?_toList,toList_madeCells_one];simp [h]
  simp [e]
 case round=>
  obtain ⟨k,hk,rfl,d,t,l,m,f⟩:=hrel;by_cases c:k<ss.length
  · obtain ⟨ha,y,n⟩:=Nc B.out c;subst ha;have g0:=(d.cell (by exact y)).trans (n k c);have g1:=f.out k x9 c;have g2:=l k;generalize hx:ss.getD k ByteArray.empty=x at*;have A:=U0 hx;clear hx n;go_wp2;go_roundw
    case rel=>
     refine ⟨k+1,O0,by go_num,d.setCell I4 _,by simpa using t,fun j=>by rw [<- l j];simp,fun j hj=>?_,fun j h1 h2=>?_⟩
     · by_cases e:j=k
       · subst e;rw [A.out];exact Bf _ _ _ g1
       · rw [<- m.out j O0];exact La _ _ _ _ (by intro h;injection h with h1 h2;exact e h2.symm)
     · rw [<- f.out j O0 h2];exact La _ _ _ _ (by intro h;injection h with h3 h4;omega)
    case measure=>simp [intOf];omega
  · have v:Hid (y8 wr (some ⟨w.heap.size,0,none⟩) ss):=.inr ⟨w.heap.size,0,rfl,O0,fun i g=>by rw [E8];exact m.out i O0⟩;go_wp2;go_ret;exact ⟨⟨rfl,v.out⟩,d⟩
theorem c47 (a l:OA) (o n:Nat) (ss:LB) (w:World) (hl:ss.length<=1048576) (j:y8 w a ss) (h:y8 w l ss):
 Calls prog 47 #[.slice a ss.length o,.slice l ss.length n] w fun e w'=>e=.returned (.bool true)/\Bw w w':=by
 obtain ⟨b,off,hc⟩:=Q_ j;have q:=U0 hc;clear hc j;obtain ⟨b',off',g⟩:=Q_ h;have p:=U0 g;clear g h;go_enter func47,ntmps47
 go_wp2_with fail
 go_loopw [5] (fun i wr=>∃ (k nq:Nat),k<=ss.length/\i=.int .i64 k/\wr=w.drewN nq) (fun i _=>ss.length - (intOf i).toNat)
 case atStart=>exact ⟨0,0,D5 _,rfl,rfl⟩
 case round=>
  obtain ⟨k,nq,hk,rfl,rfl⟩:=hrel;by_cases c:k<ss.length
  · obtain ⟨ha,hbw,f⟩:=Nc q.out c;obtain ⟨m,a5N,d⟩:=Nc p.out c;subst ha;subst m;have g0:=f k c;have g1:=d k c;generalize ss.getD k ByteArray.empty=x at*;clear f d
    go_wp2_with fail
    go_quiet (fail)
    go_wp2;go_roundw
    case rel=>exact ⟨k+1,_,O0,by go_num,rfl⟩
    case measure=>simp [intOf];omega
  · go_wp2;go_ret;exact ⟨rfl,below_drewN _⟩
structure G3 where
 nm:Bool
 tl:BY
 ar:BY
def Yg:G3:=⟨false,⟨#[]⟩,⟨#[]⟩⟩
def G3.v (x:G3):Value:=.agg #[.bool x.nm,.string x.tl,.string x.ar]
def G3.le (x:G3) (B:Nat):Prop:=x.tl.size<=B/\x.ar.size<=B
def Z_ (w:World) (a:OA) (is:List G3):Prop:=
 is=[]\/∃ b off,a=some ⟨b,off,none⟩/\b<w.heap.size/\∀ i,i<is.length->w.cell? ⟨b,off+i*3,none⟩=some (.bool (is.getD i Yg).nm)/\w.cell? ⟨b,off+i*3+1,none⟩=some (.string (is.getD i Yg).tl)/\w.cell? ⟨b,off+i*3+2,none⟩=some (.string (is.getD i Yg).ar)
theorem Oh {is:List G3} (h:Z_ w a is):∃ b off,(is=[]\/(a=some ⟨b,off,none⟩/\b<w.heap.size/\∀ i,i<is.length->w.cell? ⟨b,off+i*3,none⟩=some (.bool (is.getD i Yg).nm)/\w.cell? ⟨b,off+i*3+1,none⟩=some (.string (is.getD i Yg).tl)/\w.cell? ⟨b,off+i*3+2,none⟩=some (.string (is.getD i Yg).ar))):=by
 rcases h with h | ⟨b,off,h⟩
 · exact ⟨0,0,.inl h⟩
 · exact ⟨b,off,.inr h⟩
theorem O8 {is:List G3} (h:Z_ w a is) (c:Bw w w'):Z_ w' a is:=by
 rcases h with h | ⟨b,off,h1,h2,e⟩
 · exact .inl h
 · exact .inr ⟨b,off,h1,m_ h2 c.size,fun i d=>by rw [c.cell (by exact h2),c.cell (by exact h2),c.cell (by exact h2)];exact e i d⟩
theorem Yp (u:World) (B j:Nat) (a b v2 x0 x1 x2:Value) (h0:u.cell? ⟨B,j,none⟩=some x0) (h1:u.cell? ⟨B,j+1,none⟩=some x1) (h2:u.cell? ⟨B,j+2,none⟩=some x2):
 (((u.setCell ⟨B,j,none⟩ a).setCell ⟨B,j+1,none⟩ b).setCell ⟨B,j+2,none⟩ v2).cell? ⟨B,j,none⟩=some a/\(((u.setCell ⟨B,j,none⟩ a).setCell ⟨B,j+1,none⟩ b).setCell ⟨B,j+2,none⟩ v2).cell? ⟨B,j+1,none⟩=some b/\(((u.setCell ⟨B,j,none⟩ a).setCell ⟨B,j+1,none⟩ b).setCell ⟨B,j+2,none⟩ v2).cell? ⟨B,j+2,none⟩=some v2:=by
 have c:(u.setCell ⟨B,j,none⟩ a).cell? ⟨B,j+1,none⟩=some x1:=by rw [La _ _ _ _ (Xd O0)];exact h1
 have a2:((u.setCell ⟨B,j,none⟩ a).setCell ⟨B,j+1,none⟩ b).cell? ⟨B,j+2,none⟩=some x2:=by
  rw [La _ _ _ _ (Xd O0),La _ _ _ _ (Xd O0)];exact h2
 refine ⟨?_,?_,Bf _ _ _ a2⟩
 · rw [La _ _ _ _ (Xd O0),La _ _ _ _ (Xd O0)];exact Bf _ _ _ h0
 · rw [La _ _ _ _ (Xd O0)];exact Bf _ _ _ c
theorem nK:(prog.info? 178).map (fun i=>(i.zero,i.size,i.bytes))=some (some (.agg #[.bool false,.string ⟨#[]⟩,.string ⟨#[]⟩]),3,40):=J3
theorem a2q (x:G3) (w:World):
 Calls prog 243 #[.agg #[.bool x.nm,.string x.tl,.string x.ar],.agg #[.bool x.nm,.string x.tl,.string x.ar]] w fun e w'=>e=.returned (.bool true)/\Bw w w':=by
 go_enter func243,ntmps243;go_wp2;go_ret;exact ⟨rfl,o7.alloc I4 _⟩
theorem a1I (a q:OA) (u t:Nat) (is:List G3) (w:World) (hl:is.length<=1048576) (o:Z_ w a is) (n:Z_ w q is):
 Calls prog 202 #[.slice a is.length u,.slice q is.length t] w fun e w'=>e=.returned (.bool true)/\Bw w w':=by
 obtain ⟨b,off,hc⟩:=Oh o;have y:=U0 hc;clear hc o;obtain ⟨b',h,m⟩:=Oh n;have v:=U0 m;clear m n;go_enter func202,ntmps202
 go_wp2_with fail
 go_loopw [5] (fun i wr=>∃ (k:Nat),k<=is.length/\i=.int .i64 k/\Below w.heap.size w wr) (fun i _=>is.length - (intOf i).toNat)
 case atStart=>exact ⟨0,D5 _,rfl,Z4 _ _⟩
 case round=>
  obtain ⟨k,hk,rfl,c⟩:=hrel;by_cases d:k<is.length
  · obtain ⟨ha,l,g⟩:=Nc y.out d;obtain ⟨s,j,f⟩:=Nc v.out d;subst ha;subst s;have g0:=(c.cell (p:=⟨b,off+k*3,none⟩) l).trans (g k d).1;have g1:=(c.cell (p:=⟨b,off+k*3+1,none⟩) l).trans (g k d).2.1;have g2:=(c.cell (p:=⟨b,off+k*3+2,none⟩) l).trans (g k d).2.2;have g0':=(c.cell (p:=⟨b',h+k*3,none⟩) j).trans (f k d).1;have g1':=(c.cell (p:=⟨b',h+k*3+1,none⟩) j).trans (f k d).2.1;have g2':=(c.cell (p:=⟨b',h+k*3+2,none⟩) j).trans (f k d).2.2;generalize is.getD k Yg=x at*;clear g f
    go_wp2_with fail
    go_region_with (go_at_call 243;refine (a2q x _).mono ?_;rintro e w1 ⟨rfl,r⟩)
    all_goals go_wp2
    all_goals go_roundw
    all_goals first
     | exact ⟨k+1,O0,by go_num,(c.drew).trans (r.mono c.size)⟩
     | (simp [intOf];omega)
  · go_wp2;go_ret;exact ⟨rfl,c⟩
structure R3 where
 key:BY
 gs:List G3
 out:BY
def g_:R3:=⟨⟨#[]⟩,[],⟨#[]⟩⟩
def R3.le (x:R3) (B:Nat):Prop:=x.key.size<=B/\x.gs.length<=B/\(∀ i,(x.gs.getD i Yg).le B)/\x.out.size<=B
def jC (w:World) (b o:Nat) (x:R3):Prop:=∃ ai ci,w.cell? ⟨b,o,none⟩=some (.string x.key)/\w.cell? ⟨b,o+1,none⟩=some (.slice ai x.gs.length ci)/\w.cell? ⟨b,o+2,none⟩=some (.string x.out)/\Z_ w ai x.gs
def Jg (w:World) (a:OA) (is:List R3):Prop:=is=[]\/∃ b off,a=some ⟨b,off,none⟩/\b<w.heap.size/\∀ i,i<is.length->jC w b (off+i*3) (is.getD i g_)
theorem jC.below {b o:Nat} {x:R3} (h:jC w b o x) (c:b<w.heap.size) (a:Bw w w'):jC w' b o x:=by
 obtain ⟨f,e,h0,h1,h2,d⟩:=h;exact ⟨f,e,(a.cell (by exact c)).trans h0,(a.cell (by exact c)).trans h1,(a.cell (by exact c)).trans h2,O8 d a⟩
theorem Af {is:List R3} (h:Jg w a is):∃ b off,(is=[]\/(a=some ⟨b,off,none⟩/\b<w.heap.size/\∀ i,i<is.length->jC w b (off+i*3) (is.getD i g_))):=by
 rcases h with h | ⟨b,off,h⟩
 · exact ⟨0,0,.inl h⟩
 · exact ⟨b,off,.inr h⟩
theorem Ah {is:List R3} (h:Jg w a is) (c:Bw w w'):Jg w' a is:=by
 rcases h with h | ⟨b,off,h1,h2,e⟩
 · exact .inl h
 · exact .inr ⟨b,off,h1,m_ h2 c.size,fun i d=>(e i d).below h2 c⟩
def Xx (is:List R3):Nat:=(is.map fun x=>x.gs.length).sum
theorem SL {is:List R3} {k:Nat} (h:k<is.length):Xx (is.take (k+1))=Xx (is.take k)+(is.getD k g_).gs.length:=by
 unfold Xx;rw [pq,Fg,List.sum_append];simp [List.getD,y9 h]
theorem c143 (x:R3) (b a:OA) (h g:Nat) (w:World) (hl:x.gs.length<=1048576) (j:Z_ w b x.gs) (i:Z_ w a x.gs):
 Calls prog 143 #[.agg #[.string x.key,.slice b x.gs.length h,.string x.out],.agg #[.string x.key,.slice a x.gs.length g,.string x.out]] w fun e w'=>e=.returned (.bool true)/\Bw w w':=by
 have f:Bw w ((w.alloc (.cells #[vS x.key,vL b x.gs.length h,vS x.out] 113)).alloc (.cells #[vS x.key,vL a x.gs.length g,vS x.out] 113)):=o7.alloc I4 _;have k:=a1I b a h g x.gs _ hl (O8 j f) (O8 i f);go_enter func143,ntmps143
 go_wp2_with fail
 refine k.mono ?_;rintro e c ⟨rfl,d⟩;have l:Bw w c:=f.trans (d.mono U7);have g2:c.cell? (aW w 2)=some (vS x.out):=by rw [d.cell U7];simp [go_sem]
 have g3:c.cell? (aA (w.heap.size+1) 2)=some (vS x.out):=by rw [d.cell I4];simp [go_sem]
 clear k j i;go_wp2;go_ret;exact ⟨rfl,l⟩
structure St where
 wd:Int
 ts:LB
 rs:List R3
def St.le (s:St) (B:Nat):Prop:=(s.ts.length<=B/\∀ i,(s.ts.getD i ByteArray.empty).size<=B)/\s.rs.length<=B/\∀ i,(s.rs.getD i g_).le B
def Zg (w:World) (ta ra:OA) (s:St):Prop:=y8 w ta s.ts/\Jg w ra s.rs
theorem Zg.below {ta ra:OA} {s:St} (h:Zg w ta ra s) (a:Bw w w'):Zg w' ta ra s:=⟨Z5 h.1 a,Ah h.2 a⟩
def OW (W:Int) (g:G3):Prop:=o6 g.tl.data.toList=true/\(g.ar.size:Int)=W
def lH (W:Int) (x:R3):Prop:=(x.key.size<=321/\(x.out.size:Int)=W/\x.gs.length<=15)/\∀ i,i<x.gs.length->OW W (x.gs.getD i Yg)
def wX (W:Int) (rs:List R3):Prop:=rs.length<=150/\∀ i,i<rs.length->lH W (rs.getD i g_)
def StepT (ts:LB) (W:Int) (k:Nat):Prop:=(∃ c t,lD (ts.getD k ByteArray.empty).data.toList c t true)/\(k=0\/Op.bytesLess (E5 (ts.getD (k - 1) ByteArray.empty) W).toList (E5 (ts.getD k ByteArray.empty) W).toList=true)
def NJ (ts:LB) (W:Int):Prop:=ts.length<=300/\∀ k,k<ts.length->StepT ts W k
def dh (s:St):Prop:=(1<=s.wd/\s.wd<=8)/\NJ s.ts s.wd/\wX s.wd s.rs
theorem OQ {l t:List UInt8} {c:Int} {ok:Bool} (h:lD l c t ok):ok=true↔∃ c t,lD l c t true:=by
 constructor
 · rintro rfl;exact ⟨c,t,h⟩
 · rintro ⟨c',t',a⟩;exact (sJ h a).2.2
theorem Wp {s:BY} {n:Int} (h:1<=n/\n<=8):(E5 s n).size=n.toNat:=by
 unfold E5;rw [if_pos h,strOfNums_size,En]
def Rb (P:Prop) (e:Ending):Prop:=∃ b:Bool,e=.returned (.bool b)/\(b=true↔P)
theorem G5 (h:¬ P):Rb P (.returned (.bool false)):=⟨false,rfl,(fun h=>by cases h),fun p=>absurd p h⟩
theorem C_ (h:P):Rb P (.returned (.bool true)):=⟨true,rfl,fun _=>h,fun _=>rfl⟩
