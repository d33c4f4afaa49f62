import Derived.Test.YtlckdgjfniglfaaGreatDoorB5
import Derived.Lib.IndexLaws
import Derived.Deep.QuietTactic
import Derived.BigQuiet
set_option linter.unusedVariables false
set_option maxHeartbeats 8000000
set_option maxRecDepth 100000
namespace Go.Proofs.YtlckdgjfniglfaaGreatDoor
open Proofs.Tryz
open Go.RowKit
theorem c107 (c:Int) (s:ByteArray) (w:World) (hs:s.size<=1048700):
 Calls prog 107 #[.agg #[.int .i64 c,.string s]] w fun e w'=>e=.returned (.bool (vr c s.data.toList))/\Below w.heap.size w w':=by
 have hlen:s.data.toList.length=s.size:=sm_;by_cases h300:300<s.size
 · have hV:Hid (vr c s.data.toList=false):=vr_long om_
   clear hlen;go_enter func107,ntmps107;go_wp2;go_ret;exact ⟨ret_bool (by rw [hV.out]),bA_⟩
 by_cases h01:c=0\/c=1
 · have hV:Hid (vr c s.data.toList=true):=by unfold vr;rw [if_pos h01,hlen];simp [Hid];omega
   clear hlen;rcases h01 with rfl | rfl
   all_goals
    go_enter func107,ntmps107;go_wp2;go_ret;exact ⟨ret_bool (by rw [hV.out]),bA_⟩
 by_cases h2:c=2
 · subst h2
   have hV:Hid (vr 2 s.data.toList=num40 s.data.toList):=rfl;clear hlen h01;go_enter func107,ntmps107
   go_wp2_with fail
   refine (c31 _ _ hs).mono ?_;rintro e w1 ⟨rfl,hb1⟩
   go_wp2_with fail
   refine (c28 _ _ _ _).mono ?_;rintro e w2 ⟨rfl,rfl⟩;go_wp2;go_ret;refine ⟨ret_bool (by rw [hV.out];rw [<- n29_num40];simp),bA_.trans (hb1.mono sm_)⟩
 by_cases h3:c=3
 · subst h3
   have hV:Hid (vr 3 s.data.toList=s.toList.isEmpty):=by rw [ByteArray.toList_eq];rfl
   clear hlen h01 h2;go_enter func107,ntmps107;go_wp2;go_ret;exact ⟨ret_bool (by rw [hV.out]),bA_⟩
 by_cases h4:c=4\/c=5\/c=7
 · have hV:Hid (vr c s.data.toList=nameOk s.data.toList):=by unfold vr;rw [if_neg h01,if_neg h2,if_neg h3,if_pos h4];rfl
   clear hlen h01 h2 h3;rcases h4 with rfl | rfl | rfl
   all_goals
    go_enter func107,ntmps107
    go_wp2_with fail
    refine (c62 _ _ hs).mono ?_;rintro e w1 ⟨rfl,rfl⟩;go_wp2;go_ret;exact ⟨ret_bool (by rw [hV.out]),bA_⟩
 · have hV:Hid (vr c s.data.toList=false):=by unfold vr;rw [if_neg h01,if_neg h2,if_neg h3,if_neg h4];rfl
   have e0:(c==0)=false:=so_;have e1:(c==1)=false:=so_;have e2:(c==2)=false:=so_;have e3:(c==3)=false:=so_;have e4:(c==4)=false:=so_;have e5:(c==5)=false:=so_;have e7:(c==7)=false:=so_;clear hlen h01 h2 h3 h4;go_enter func107,ntmps107;go_wp2;go_ret;exact ⟨ret_bool (by rw [hV.out]),bA_⟩
def num7 (l:List UInt8):Bool:=lean1 l&&l.all isDig&&decide (val l<=7)
def rn7 (l:List UInt8):Int:=if num7 l=true then val l else 0
theorem n7_lean {l:List UInt8} (h:lean1 l=false):num7 l=false:=by simp [num7,h]
theorem n7_dig {l:List UInt8} (h:l.all isDig=false):num7 l=false:=by simp only [num7,h,Bool.and_false,Bool.false_and]
theorem n7_big {l:List UInt8} (k:Nat) (h:7<val (l.take k)):num7 l=false:=by
 by_cases ha:l.all isDig=true
 · have:=val_take_le l ha k
   have hd:decide (val l<=7)=false:=by simp only [decide_eq_false_iff_not];omega
   simp only [num7,hd,Bool.and_false]
 · exact n7_dig (by simpa using ha)
theorem n7_yes {l:List UInt8} (h1:lean1 l=true) (h2:l.all isDig=true) (h3:val l<=7):num7 l=true:=by
 have hd:decide (val l<=7)=true:=by simpa using h3
 simp only [num7,h1,h2,hd,Bool.and_self]
theorem rn7_no {l:List UInt8} (h:num7 l=false):rn7 l=0:=by simp [rn7,h]
theorem rn7_yes {l:List UInt8} (h:num7 l=true):rn7 l=val l:=by simp [rn7,h]
theorem c76s (s:ByteArray) (w:World) (hs:s.size<=1048700):
 Calls prog 76 #[.string s,.int .i64 7] w fun e w'=>e=.returned (.tuple #[.int .i64 (rn7 s.data.toList),.bool (num7 s.data.toList)])/\w'=w:=by
 by_cases h0:s.size=0
 · have e0:s.toList=[]:=by
    rw [ByteArray.toList_eq];exact List.length_eq_zero_iff.1 (by simpa using h0)
   have hN:Hid (num7 s.data.toList=false):=n7_lean (by rw [<- ByteArray.toList_eq,e0];rfl);go_enter func76,ntmps76;go_wp2;go_ret2;exact ⟨ret_pair (rn7_no hN.out).symm hN.out.symm,rfl⟩
 · have e0:s.toList.isEmpty=false:=by rw [ByteArray.toList_eq];exact str_isEmpty s om_
   have e1:¬ s.toList=[]:=fun h=>by rw [h] at e0;cases e0
   have hp:0<s.size:=om_;have hh:=head_zero s hp;by_cases hl:lean1 s.data.toList=true
   · have HL:Hid (lean1 s.data.toList=true):=hl
     have hc:(s[0].toNat=48/\s.toList=[48])\/((s[0].toNat:Int)==48)=false:=by
      by_cases h48:s[0].toNat=48
      · refine .inl ⟨h48,?_⟩
        have h1:s[0]=48:=UInt8.toNat_inj.1 h48;rw [ByteArray.toList_eq];exact ((lean1_iff _).1 hl).2 (by rw [hh];exact h1)
      · exact .inr so_
     clear hl hh;rcases hc with ⟨h48,hz⟩ | h48
     all_goals
      go_enter func76,ntmps76;go_wp2;go_loop [6,21] (fun n i=>∃ k:Nat,k<=s.size/\i=.int .i64 k/\n=.int .i64 (val (s.data.toList.take k))/\0<=val (s.data.toList.take k)/\val (s.data.toList.take k)<=7/\Hid ((s.data.toList.take k).all isDig=true)) (fun _ i=>s.size - (intOf i).toNat)
      case atStart=>exact ⟨0,Nat.zero_le _,rfl,rfl,by simp [val],by simp [val],rfl⟩
      case round=>
       obtain ⟨k,hk,rfl,rfl,hv0,hv1,ha⟩:=hrel;by_cases hlt:k<s.size
       · by_cases hg:isDig s[k]=true
         · have hg':=(dig_iff _).1 hg
           have hw:=byte_sub _ hg';have ha':Hid ((s.data.toList.take (k+1)).all isDig=true):=all_take_snoc _ s k hlt ha.out hg;have hvs:Hid (val (s.data.toList.take (k+1))=val (s.data.toList.take k)*10+((s[k].toNat:Int) - 48)):=by
            rw [take_snoc s k hlt];exact val_snoc _ _
           clear hg;by_cases hb:7<val (s.data.toList.take k)*10+((s[k].toNat:Int) - 48)
           · have hN:Hid (num7 s.data.toList=false):=n7_big (k+1) (by rw [hvs.out];exact hb)
             go_wp2;go_ret2;exact ⟨ret_pair (rn7_no hN.out).symm hN.out.symm,rfl⟩
           · go_wp2
             go_round
             case rel=>exact ⟨k+1,om_,by go_num,by rw [hvs.out],by rw [hvs.out];omega,by rw [hvs.out];omega,ha'⟩
             case measure=>simp [intOf];omega
         · have hN:Hid (num7 s.data.toList=false):=n7_dig (all_false_at _ s k hlt (by simpa using hg))
           have hg':(s[k].toNat:Int)<48\/57<(s[k].toNat:Int):=by
            rcases Int.lt_or_le (s[k].toNat:Int) 48 with h | h
            · exact .inl h
            · rcases Int.lt_or_le 57 (s[k].toNat:Int) with h' | h'
              · exact .inr h'
              · exact absurd ((dig_iff _).2 ⟨h,h'⟩) hg
           clear hg;rcases hg' with hg | hg
           all_goals
            go_wp2
            all_goals go_ret2
            all_goals exact ⟨ret_pair (rn7_no hN.out).symm hN.out.symm,rfl⟩
       · have hall:=all_take_size _ s k om_ ha.out
         have hE:s.data.toList.take k=s.data.toList:=List.take_of_length_le so_;have hN:Hid (num7 s.data.toList=true):=n7_yes HL.out hall (by rw [<- hE];exact hv1);have HE:Hid (s.data.toList.take k=s.data.toList):=hE;clear hall hE;go_wp2;go_ret2;exact ⟨ret_pair (by rw [rn7_yes hN.out,HE.out]) hN.out.symm,rfl⟩
   · have hN:Hid (num7 s.data.toList=false):=n7_lean (by simpa using hl)
     have h48:s[0].toNat=48/\¬ s.toList=[48]:=by
      rw [ByteArray.toList_eq] at e1 ⊢;rw [lean1_iff,hh] at hl;by_cases h1:s[0]=48
      · refine ⟨by rw [h1];rfl,fun hz=>hl ⟨e1,fun _=>hz⟩⟩
      · exact absurd ⟨e1,fun h=>absurd h h1⟩ hl
     obtain ⟨h48,hz⟩:=h48;have hz':(!s.toList==[48])=true:=by simpa using hz
     clear hh hl;go_enter func76,ntmps76;go_wp2;go_ret2;exact ⟨ret_pair (rn7_no hN.out).symm hN.out.symm,rfl⟩
theorem cut_58 (l:List UInt8):((Lib.cut l [58]).2.2=true/\l=(Lib.cut l [58]).1++58::(Lib.cut l [58]).2.1/\(58:UInt8)∉(Lib.cut l [58]).1)\/((Lib.cut l [58]).2.2=false/\(Lib.cut l [58]).1=l/\(58:UInt8)∉l):=by
 unfold Lib.cut;rw [Lib.index_one];have hge:=Lib.indexByte_ge l 58;by_cases h:Lib.indexByte l 58=-1
 · rw [h,if_neg om_]
   refine .inr ⟨rfl,rfl,fun hm=>?_⟩;obtain ⟨k,hk,e⟩:=List.getElem_of_mem hm;exact Lib.indexByte_none h k (by rw [List.getElem?_eq_getElem hk,e])
 · obtain ⟨o,ho⟩:∃ o:Nat,Lib.indexByte l 58=o:=⟨(Lib.indexByte l 58).toNat,om_⟩
   obtain ⟨h1,h2⟩:=Lib.indexByte_some ho;have hl:o<l.length:=by
    rcases Nat.lt_or_ge o l.length with h | h
    · exact h
    · rw [List.getElem?_eq_none h] at h1;cases h1
   rw [ho,if_pos om_];refine .inl ⟨rfl,?_,fun hm=>?_⟩
   · simp only [Int.toNat_natCast,List.length_singleton]
     have hx:l[o]=58:=by rw [List.getElem?_eq_getElem hl] at h1;exact Option.some.inj h1
     conv=>lhs;rw [<- List.take_append_drop o l,List.drop_eq_getElem_cons hl,hx]
   · simp only [Int.toNat_natCast] at hm
     obtain ⟨k,hk,e⟩:=List.getElem_of_mem hm;rw [List.length_take] at hk;rw [List.getElem_take] at e;exact h2 k om_ (by rw [List.getElem?_eq_getElem om_,e])
def MaxAt (w:World):Prop:=0<w.heap.size/\∃ m,w.cell? ⟨0,0,none⟩=some (.int .i64 m)
theorem max_below {w w':World} (h:MaxAt w) (hb:Below w.heap.size w w'):MaxAt w':=by
 obtain ⟨h1,m,hm⟩:=h;exact ⟨Nat.lt_of_lt_of_le h1 hb.size,m,by rw [hb.cell (by exact h1)];exact hm⟩
theorem below_drewN {w:World} (n:Nat):Below w.heap.size w (w.drewN n):=⟨rfl,rfl,rfl,Nat.le_refl _,fun _ _=>rfl⟩
theorem c75w (l:List UInt8) (w:World) (hs:l.length<=1048700) (hm:MaxAt w):
 Calls prog 75 #[.string (ofL l),.string ⟨#[58]⟩] w fun e w'=>e=.returned (.tuple #[.string (ofL (Lib.cut l [58]).1),.string (ofL (Lib.cut l [58]).2.1),.bool (Lib.cut l [58]).2.2])/\Below w.heap.size w w':=by
 obtain ⟨_,m,hm⟩:=hm;refine (Tryz.strings_Cut (ofL l) ⟨#[58]⟩ m w (by rw [ofL_size];omega) hm).mono ?_;rintro e w' ⟨rfl,n,rfl⟩;exact ⟨rfl,below_drewN n⟩
def formR (c:Int) (l:List UInt8):List UInt8:=if vr c l=true then UInt8.ofNat (48+c).toNat::58::l else []
theorem vr_code {c:Int} {l:List UInt8} (h:vr c l=true):c=0\/c=1\/c=2\/c=3\/c=4\/c=5\/c=7:=by
 unfold vr at h;by_cases h1:c=0\/c=1
 · omega
 · rw [if_neg h1] at h
   by_cases h2:c=2
   · omega
   · rw [if_neg h2] at h
     by_cases h3:c=3
     · omega
     · rw [if_neg h3] at h
       by_cases h4:c=4\/c=5\/c=7
       · omega
       · rw [if_neg h4] at h;cases h
theorem form_no {c:Int} {s:ByteArray} (h:vr c s.data.toList=false):Ending.returned (.string (⟨#[]⟩:ByteArray))=.returned (.string (ofL (formR c s.data.toList))):=by
 unfold formR;rw [h];rfl
theorem form_yes {c:Int} {s:ByteArray} (h:vr c s.data.toList=true):ofL (formR c s.data.toList)=ofL [UInt8.ofNat (48+c).toNat]++⟨#[58]⟩++s:=by
 unfold formR;rw [if_pos h];apply ByteArray.ext;simp [ofL]
theorem past {w:World} {p:Addr} {v:Value} (hp:p.block<w.heap.size) (h:w.cell? p=some v) (o:Obj):(w.alloc o).cell? p=some v:=by
 rw [((Below.refl w.heap.size w).alloc lr_ o).cell hp];exact h
theorem c72 (c:Int) (s:ByteArray) (w:World) (hs:s.size<=1048700):
 Calls prog 72 #[.agg #[.int .i64 c,.string s]] w fun e w'=>e=.returned (.string (ofL (formR c s.data.toList)))/\Below w.heap.size w w':=by
 go_enter func72,ntmps72
 go_wp2_with fail
 refine (c107 _ _ _ hs).mono ?_;rintro e w1 ⟨rfl,hb1⟩;have hB1:=((Below.refl w.heap.size w).alloc lr_ (.cells #[.int .i64 c,.string s] 45)).trans (hb1.mono sm_);have hz1:w.heap.size+1<=w1.heap.size:=by have:=hb1.size;simp at this;omega
 have g10:w1.cell? ⟨w.heap.size,0,none⟩=some (.int .i64 c):=by rw [hb1.cell sm_];simp
 have g11:w1.cell? ⟨w.heap.size,1,none⟩=some (.string s):=by rw [hb1.cell sm_];simp
 cases hv:vr c s.data.toList
 · have hF:=form_no hv
   go_wp2;go_ret;exact ⟨hF,hB1⟩
 · have hc:=vr_code hv
   have hF:Hid (ofL (formR c s.data.toList)=ofL [UInt8.ofNat (48+c).toNat]++⟨#[58]⟩++s):=form_yes hv;have hcv:=conv1;have hcd:=convD;have hz:∀ y,(strOfNums [y]).size=1:=fun y=>strOfNums_size [y];clear hv;have h0:0<=c:=om_;have h7:c<=7:=om_;have hO:Hid (strOfNums [48+c]=ofL [UInt8.ofNat (48+c).toNat]):=by
    rcases hc with rfl | rfl | rfl | rfl | rfl | rfl | rfl <;> rfl
   clear hc;have g12:∀ o,(w1.alloc o).cell? ⟨w.heap.size,1,none⟩=some (.string s):=past so_ g11;go_wp2;go_ret;exact ⟨by rw [hF.out,<- hO.out];rfl,by first | exact hB1.alloc om_ _ | exact (hB1.alloc om_ _).drew⟩
theorem dig_inj {c d:Int} (hc:c=0\/c=1\/c=2\/c=3\/c=4\/c=5\/c=7) (hd:0<=d/\d<=9) (h:UInt8.ofNat (48+c).toNat=UInt8.ofNat (48+d).toNat):c=d:=by
 have h':=congrArg UInt8.toNat h;simp only [UInt8.toNat_ofNat'] at h';omega
def IsR (l:List UInt8) (c:Int) (t:List UInt8) (ok:Bool):Prop:=
 (ok=true->vr c t=true/\l=UInt8.ofNat (48+c).toNat::58::t)/\(ok=false->(c=0/\t=[])/\∀ c' t',vr c' t'=true->l≠UInt8.ofNat (48+c').toNat::58::t')
theorem code_09 {c:Int} {t:List UInt8} (h:vr c t=true):0<=c/\c<=9:=by have:=vr_code h;omega
theorem isR_one {l t u:List UInt8} {c d:Int} {a b:Bool} (h:IsR l c t a) (k:IsR l d u b):c=d/\t=u/\a=b:=by
 cases a <;> cases b
 · obtain ⟨⟨rfl,rfl⟩,_⟩:=h.2 rfl
   obtain ⟨⟨rfl,rfl⟩,_⟩:=k.2 rfl;exact ⟨rfl,rfl,rfl⟩
 · obtain ⟨_,hn⟩:=h.2 rfl
   obtain ⟨h1,h2⟩:=k.1 rfl;exact absurd h2 (hn _ _ h1)
 · obtain ⟨_,hn⟩:=k.2 rfl
   obtain ⟨h1,h2⟩:=h.1 rfl;exact absurd h2 (hn _ _ h1)
 · obtain ⟨h1,h2⟩:=h.1 rfl
   obtain ⟨k1,k2⟩:=k.1 rfl;rw [h2] at k2;simp only [List.cons.injEq,true_and] at k2;exact ⟨dig_inj (vr_code h1) (code_09 k1) k2.1,k2.2,rfl⟩
theorem isR_no {l:List UInt8} (h:∀ c' t',vr c' t'=true->l≠UInt8.ofNat (48+c').toNat::58::t'):IsR l 0 [] false:=⟨(fun h=>by cases h),fun _=>⟨⟨rfl,rfl⟩,h⟩⟩
theorem num7_of {l:List UInt8} (h:num7 l=true):0<=val l/\val l<=7/\l=[UInt8.ofNat (48+val l).toNat]:=by
 simp only [num7,Bool.and_eq_true,decide_eq_true_eq] at h;obtain ⟨⟨h1,h2⟩,h3⟩:=h;have h0:=val_nonneg l h2;refine ⟨h0,h3,?_⟩;have hd:=(dec_val l h2 h1).1;rw [dec_lt _ om_] at hd;exact hd.symm
theorem num7_dig {c:Int} (h:c=0\/c=1\/c=2\/c=3\/c=4\/c=5\/c=7):num7 [UInt8.ofNat (48+c).toNat]=true:=by
 rcases h with rfl | rfl | rfl | rfl | rfl | rfl | rfl <;> decide
theorem colon_dig {c:Int} (h:c=0\/c=1\/c=2\/c=3\/c=4\/c=5\/c=7):(58:UInt8)∉[UInt8.ofNat (48+c).toNat]:=by
 rcases h with rfl | rfl | rfl | rfl | rfl | rfl | rfl <;> decide
theorem split58 {a b r q:List UInt8} (ha:(58:UInt8)∉a) (hb:(58:UInt8)∉b) (h:a++58::r=b++58::q):a=b/\r=q:=by
 induction a generalizing b with
 | nil=>
  cases b with
  | nil=>exact ⟨rfl,by simpa using h⟩
  | cons x b=>simp at h;exact absurd (by rw [h.1];simp) hb
 | cons x a ih=>
  cases b with
  | nil=>simp at h;exact absurd (by rw [h.1];simp) ha
  | cons y b=>
   simp only [List.cons_append,List.cons.injEq] at h;obtain ⟨rfl,h⟩:=h;obtain ⟨rfl,rfl⟩:=ih (fun m=>ha (List.mem_cons_of_mem _ m)) (fun m=>hb (List.mem_cons_of_mem _ m)) h;exact ⟨rfl,rfl⟩
theorem isR_impl {l:List UInt8}:((Lib.cut l [58]).2.2=true->num7 (Lib.cut l [58]).1=true->vr (rn7 (Lib.cut l [58]).1) (Lib.cut l [58]).2.1=true->IsR l (rn7 (Lib.cut l [58]).1) (Lib.cut l [58]).2.1 true)/\(¬ ((Lib.cut l [58]).2.2=true/\num7 (Lib.cut l [58]).1=true/\vr (rn7 (Lib.cut l [58]).1) (Lib.cut l [58]).2.1=true)->IsR l 0 [] false):=by
 have hcut:=cut_58 l;generalize (Lib.cut l [58]).1=a at hcut ⊢;generalize (Lib.cut l [58]).2.1=t at hcut ⊢;generalize (Lib.cut l [58]).2.2=k at hcut ⊢;rcases hcut with ⟨rfl,rfl,hn⟩ | ⟨rfl,rfl,hn⟩
 · refine ⟨fun _ h7 hv=>⟨fun _=>⟨hv,?_⟩,(fun h=>by cases h)⟩,fun h=>isR_no fun c' t' hv' e=>?_⟩
   · obtain ⟨_,_,h⟩:=num7_of h7
     rw [rn7_yes h7]
     conv=>lhs;rw [h]
     rfl
   · obtain ⟨rfl,rfl⟩:=split58 (b:=[UInt8.ofNat (48+c').toNat]) hn (colon_dig (vr_code hv')) e
     have h7:=num7_dig (vr_code hv');obtain ⟨h0,h1,hl⟩:=num7_of h7;have hc:c'=val [UInt8.ofNat (48+c').toNat]:=dig_inj (vr_code hv') ⟨h0,om_⟩ (by simpa using hl);refine h ⟨rfl,h7,?_⟩;rw [rn7_yes h7,<- hc];exact hv'
 · refine ⟨(fun h=>by cases h),fun _=>isR_no fun c' t' hv' e=>hn ?_⟩
   rw [e];simp
theorem isR_short {l:List UInt8} (h:l.length<2):IsR l 0 [] false:=isR_no fun c' t' _ e=>by rw [e] at h;simp at h;omega
theorem isR_nodig {l:List UInt8} (h:((l.headD 0).toNat:Int)<48\/57<((l.headD 0).toNat:Int)):IsR l 0 [] false:=isR_no fun c' t' hv e=>by
 rw [e] at h;simp only [List.headD_cons] at h;have:=vr_code hv;rw [UInt8.toNat_ofNat'] at h;omega
theorem isR_spec {l:List UInt8} {x:UInt8} {c:Int} (h2:2<=l.length) (hx:l.headD 0=x) (hc:(x.toNat:Int)=48+c) (h0:0<=c/\c<=9):
 (formR c (l.drop 2)=l->IsR l c (l.drop 2) true)/\(formR c (l.drop 2)≠l->IsR l 0 [] false):=by
 constructor
 · intro h
   unfold formR at h;by_cases hv:vr c (l.drop 2)=true
   · rw [if_pos hv] at h
     exact ⟨fun _=>⟨hv,h.symm⟩,(fun h=>by cases h)⟩
   · rw [if_neg hv] at h
     rw [<- h] at h2;simp at h2
 · intro h
   refine isR_no fun c' t' hv e=>h ?_;rw [e] at hx ⊢;simp only [List.headD_cons] at hx;have:c'=c:=dig_inj (vr_code hv) h0 (by
    rw [hx];apply UInt8.toNat_inj.1;rw [UInt8.toNat_ofNat'];have:=x.toNat_lt;omega)
   subst this;simp only [List.drop_succ_cons,List.drop_zero];unfold formR;rw [if_pos hv]
def Is56 (l:List UInt8) (e:Ending):Prop:=∃ (c:Int) (t:List UInt8) (ok:Bool),e=.returned (.tuple #[.agg #[.int .i64 c,.string (ofL t)],.bool ok])/\IsR l c t ok/\t.length<=l.length
theorem ofL_data (l:List UInt8):(ofL l).data.toList=l:=by simp [ofL]
theorem ofL_self (s:ByteArray):ofL s.data.toList=s:=by apply ByteArray.ext;simp [ofL]
theorem cut_small (l:List UInt8):(Lib.cut l [58]).1.length<=l.length/\(Lib.cut l [58]).2.1.length<=l.length:=by
 unfold Lib.cut;split
 · simp only [List.length_take,List.length_drop];omega
 · simp
theorem adr_ne {B j k:Nat} (h:j≠k):(⟨B,j,none⟩:Addr)≠⟨B,k,none⟩:=fun e=>h (by cases e;rfl)
theorem rz2 {w u:World} (hb:Below (w.heap.size+1) (w.alloc (.cells #[.int .i64 0,.string ⟨#[]⟩] 45)) u):
 (u.cell? ⟨w.heap.size,0,none⟩=some (.int .i64 0)/\u.cell? ⟨w.heap.size,1,none⟩=some (.string ⟨#[]⟩))/\u.frozen? ⟨w.heap.size,0,none⟩=false/\u.frozen? ⟨w.heap.size,1,none⟩=false:=by
 have c:∀ j,u.cell? ⟨w.heap.size,j,none⟩=(w.alloc (.cells #[.int .i64 0,.string ⟨#[]⟩] 45)).cell? ⟨w.heap.size,j,none⟩:=fun j=>hb.cell sm_;have f:∀ j,u.frozen? ⟨w.heap.size,j,none⟩=(w.alloc (.cells #[.int .i64 0,.string ⟨#[]⟩] 45)).frozen? ⟨w.heap.size,j,none⟩:=fun j=>hb.frozen sm_;rw [c,c,f,f];simp
theorem pastf {w:World} {p:Addr} (hp:p.block<w.heap.size) (h:w.frozen? p=false) (o:Obj):(w.alloc o).frozen? p=false:=by
 rw [((Below.refl w.heap.size w).alloc lr_ o).frozen hp];exact h
theorem set2_at (u:World) (B:Nat) (v0 v1 x0 x1:Value) (h0:u.cell? ⟨B,0,none⟩=some x0) (h1:u.cell? ⟨B,1,none⟩=some x1):
 ((u.setCell ⟨B,0,none⟩ v0).setCell ⟨B,1,none⟩ v1).cell? ⟨B,0,none⟩=some v0/\((u.setCell ⟨B,0,none⟩ v0).setCell ⟨B,1,none⟩ v1).cell? ⟨B,1,none⟩=some v1:=by
 have a1:(u.setCell ⟨B,0,none⟩ v0).cell? ⟨B,1,none⟩=some x1:=by rw [World.cell?_setCell_other _ _ _ _ (adr_ne om_)];exact h1
 refine ⟨?_,World.cell?_setCell_same _ _ _ a1⟩;rw [World.cell?_setCell_other _ _ _ _ (adr_ne om_)];exact World.cell?_setCell_same _ _ _ h0
theorem c39 (l:List UInt8) (w:World) (hs:l.length<=1048700) (hm:MaxAt w):
 Calls prog 39 #[.string (ofL l)] w fun e w'=>Is56 l e/\Below w.heap.size w w':=by
 have hcs:=cut_small l;have hI:=@isR_impl l;have hB0:Below w.heap.size w (w.alloc (.cells #[.int .i64 0,.string ⟨#[]⟩] 45)):=(Below.refl w.heap.size w).alloc lr_ _;have hc14:=c75w l _ hs (max_below hm hB0);generalize ha:(Lib.cut l [58]).1=a at hcs hI hc14;generalize ht:(Lib.cut l [58]).2.1=t at hcs hI hc14;generalize hk:(Lib.cut l [58]).2.2=k at hcs hI hc14;clear ha ht hk;have h15:=c76s (ofL a);rw [ofL_data,ofL_size] at h15;have h16:=fun c=>c77 c (ofL t);rw [ofL_data,ofL_size] at h16;obtain ⟨hca,hct⟩:=hcs;go_enter func39,ntmps39
 go_wp2_with fail
 refine hc14.mono ?_;rintro e w2 ⟨rfl,hb1⟩;have hx2:Below (w.heap.size+1) (w.alloc (.cells #[.int .i64 0,.string ⟨#[]⟩] 45)) w2:=by simpa using hb1
 have hB2:Below w.heap.size w w2:=hB0.trans (hx2.mono om_);have hR2:w.heap.size<w2.heap.size:=by have:=hx2.size;simp at this;omega
 clear hb1 hc14
 go_wp2_with fail
 refine (h15 _ om_).mono ?_;rintro e w' ⟨rfl,hw'⟩;obtain rfl:=hw'.symm;clear hw';obtain ⟨⟨z0,z1⟩,y0,y1⟩:=rz2 hx2;have z0':=past (by exact hR2) z0;have z1':=past (by exact hR2) z1;have y0':=pastf (by exact hR2) y0;have y1':=pastf (by exact hR2) y1;have hno:¬ (k=true/\num7 a=true/\vr (rn7 a) t=true)->Hid (Is56 l (.returned (.tuple #[.agg #[.int .i64 0,.string ⟨#[]⟩],.bool false]))):=fun h=>⟨0,[],false,rfl,hI.2 h,Nat.zero_le _⟩;cases hk:k
 · have HI:=hno (by rw [hk];simp)
   clear hno hI;go_wp2;have F:=set2_at w2 w.heap.size (.int .i64 0) (.string ⟨#[]⟩) _ _ z0 z1;have G0:=past (p:=⟨w.heap.size,0,none⟩) (by simpa using hR2) F.1;have G1:=past (p:=⟨w.heap.size,1,none⟩) (by simpa using hR2) F.2;refine bodyPost_ret (v:=.tuple #[.agg #[.int .i64 0,.string ⟨#[]⟩],.bool false]) (by simp [results,Tryz.results39,go_sem,G0,G1]) rfl ⟨HI.out,?_⟩
   first
    | exact ((hB2.setCell sm_ _).setCell sm_ _).alloc (by simpa using hB2.size) _
    | exact ((hB2.setCell sm_ _).setCell sm_ _)
 cases h7:num7 a
 · have HI:=hno (by rw [h7];simp)
   clear hno hI;go_wp2;have F:=set2_at w2 w.heap.size (.int .i64 0) (.string ⟨#[]⟩) _ _ z0 z1;have G0:=past (p:=⟨w.heap.size,0,none⟩) (by simpa using hR2) F.1;have G1:=past (p:=⟨w.heap.size,1,none⟩) (by simpa using hR2) F.2;refine bodyPost_ret (v:=.tuple #[.agg #[.int .i64 0,.string ⟨#[]⟩],.bool false]) (by simp [results,Tryz.results39,go_sem,G0,G1]) rfl ⟨HI.out,?_⟩
   first
    | exact ((hB2.setCell sm_ _).setCell sm_ _).alloc (by simpa using hB2.size) _
    | exact ((hB2.setCell sm_ _).setCell sm_ _)
 go_wp2_with fail
 refine (h16 _ _ om_).mono ?_;rintro e w3 ⟨rfl,hb3⟩;have hx3:=(hx2.alloc om_ (.cells #[.int .i64 (rn7 a),.string (ofL t)] 45)).trans (hb3.mono so_);have hB3:Below w.heap.size w w3:=hB0.trans (hx3.mono om_);have hR3:w2.heap.size<w3.heap.size:=by have:=hb3.size;simp at this;omega
 have r0:w3.cell? ⟨w2.heap.size,0,none⟩=some (.int .i64 (rn7 a)):=by rw [hb3.cell sm_];simp
 have r1:w3.cell? ⟨w2.heap.size,1,none⟩=some (.string (ofL t)):=by rw [hb3.cell sm_];simp
 clear z0 z1 y0 y1 z0' z1' y0' y1' hb3;obtain ⟨⟨z0,z1⟩,y0,y1⟩:=rz2 hx3;cases hv:vr (rn7 a) t
 · have HI:=hno (by rw [hv];simp)
   clear hno hI;go_wp2;refine bodyPost_ret (v:=.tuple #[.agg #[.int .i64 0,.string ⟨#[]⟩],.bool false]) (by simp [results,Tryz.results39,go_sem,z0,z1]) rfl ⟨HI.out,?_⟩;exact ((hB3.setCell sm_ _).setCell sm_ _)
 · have HI:Hid (Is56 l (.returned (.tuple #[.agg #[.int .i64 (rn7 a),.string (ofL t)],.bool true]))):=⟨rn7 a,t,true,rfl,hI.1 hk h7 hv,hct⟩
   clear hno hI hv;go_wp2;have F:=set2_at w3 w.heap.size (.int .i64 (rn7 a)) (.string (ofL t)) _ _ z0 z1;refine bodyPost_ret (v:=.tuple #[.agg #[.int .i64 (rn7 a),.string (ofL t)],.bool true]) (by simp [results,Tryz.results39,go_sem,F.1,F.2]) rfl ⟨HI.out,?_⟩;exact ((hB3.setCell sm_ _).setCell sm_ _)
theorem drop2 (s:ByteArray):s.extract 2 s.size=ofL (s.data.toList.drop 2):=by
 apply ByteArray.ext;apply Array.toList_inj.1;simp [ofL,ByteArray.data_extract];exact List.take_of_length_le sm_
theorem c108 (s:ByteArray) (w:World) (hs:s.size<=1048700):
 Calls prog 108 #[.string s] w fun e w'=>Is56 s.data.toList e/\Below w.heap.size w w':=by
 have hlen:s.data.toList.length=s.size:=sm_;have hB0:Below w.heap.size w (w.alloc (.cells #[.int .i64 0,.string ⟨#[]⟩] 45)):=(Below.refl w.heap.size w).alloc lr_ _;have hno:IsR s.data.toList 0 [] false->Hid (Is56 s.data.toList (.returned (.tuple #[.agg #[.int .i64 0,.string ⟨#[]⟩],.bool false]))):=fun h=>⟨0,[],false,rfl,h,Nat.zero_le _⟩;by_cases h2:s.size<2
 · have HI:=hno (isR_short om_)
   clear hno hlen;go_enter func108,ntmps108;go_wp2;refine bodyPost_ret (v:=.tuple #[.agg #[.int .i64 0,.string ⟨#[]⟩],.bool false]) (by simp [results,Tryz.results108,go_sem]) rfl ⟨HI.out,hB0⟩
 have h0:0<s.size:=om_;have hh:=head_zero s h0;by_cases hd:(s[0].toNat:Int)<48\/57<(s[0].toNat:Int)
 · have HI:=hno (isR_nodig (by rw [hh];exact hd))
   clear hno hlen hh;rcases hd with hd | hd
   all_goals
    go_enter func108,ntmps108;go_wp2;refine bodyPost_ret (v:=.tuple #[.agg #[.int .i64 0,.string ⟨#[]⟩],.bool false]) (by simp [results,Tryz.results108,go_sem]) rfl ⟨HI.out,hB0⟩
 · have hd':48<=(s[0].toNat:Int)/\(s[0].toNat:Int)<=57:=om_
   have hw:=byte_sub _ hd';have hS:=isR_spec (l:=s.data.toList) (x:=s[0]) (c:=(s[0].toNat:Int) - 48) om_ hh om_ om_;have hx:=drop2 s;clear hh hd;have hdl:(s.data.toList.drop 2).length<=s.data.toList.length:=sm_;generalize hT:s.data.toList.drop 2=T at hS hx hdl;clear hT;have h13:=c72 ((s[0].toNat:Int) - 48) (ofL T);rw [ofL_data,ofL_size] at h13;generalize hL:s.data.toList=L at*;generalize hC:(s[0].toNat:Int) - 48=C at*;obtain ⟨d1,d2⟩:=hd';go_enter func108,ntmps108
   go_wp2_with fail
   go_region
   all_goals
    go_wp2_with fail
    refine (h13 _ om_).mono ?_;rintro e w3 ⟨rfl,hb3⟩;have hz3:w.heap.size+2<=w3.heap.size:=by have:=hb3.size;simp at this;omega
    have hx3:Below (w.heap.size+1) (w.alloc (.cells #[.int .i64 0,.string ⟨#[]⟩] 45)) w3:=by
     refine Below.trans ?_ (hb3.mono sm_)
     first | exact ((Below.refl _ _).alloc sm_ _).drew | exact (Below.refl _ _).alloc sm_ _
    have hB3:Below w.heap.size w w3:=hB0.trans (hx3.mono om_);have r0:w3.cell? ⟨w.heap.size+1,0,none⟩=some (.int .i64 C):=by rw [hb3.cell sm_];simp [go_sem]
    have r1:w3.cell? ⟨w.heap.size+1,1,none⟩=some (.string (ofL T)):=by rw [hb3.cell sm_];simp [go_sem]
    obtain ⟨⟨z0,z1⟩,y0,y1⟩:=rz2 hx3;clear hb3 h13;by_cases hf:formR C T=L
    · have HI:Hid (Is56 L (.returned (.tuple #[.agg #[.int .i64 C,.string (ofL T)],.bool true]))):=⟨C,T,true,rfl,hS.1 hf,hdl⟩
      have e1:((ofL (formR C T)).toList==s.toList)=true:=by rw [hf,ByteArray.toList_eq,ByteArray.toList_eq,ofL_data,hL];simp
      have e2:(ofL (formR C T)).toList=s.toList:=by simpa using e1
      clear hno hS hf;go_wp2;have F:=set2_at w3 w.heap.size (.int .i64 C) (.string (ofL T)) _ _ z0 z1;refine bodyPost_ret (v:=.tuple #[.agg #[.int .i64 C,.string (ofL T)],.bool true]) (by simp [results,Tryz.results108,go_sem,F.1,F.2]) rfl ⟨HI.out,?_⟩;exact ((hB3.setCell sm_ _).setCell sm_ _)
    · have HI:=hno (hS.2 hf)
      have e2:¬ (ofL (formR C T)).toList=s.toList:=by rw [ByteArray.toList_eq,ByteArray.toList_eq,ofL_data,hL];exact hf
      have e1:((ofL (formR C T)).toList==s.toList)=false:=by simpa using e2
      clear hno hS hf;go_wp2;have F:=set2_at w3 w.heap.size (.int .i64 0) (.string ⟨#[]⟩) _ _ z0 z1;refine bodyPost_ret (v:=.tuple #[.agg #[.int .i64 0,.string ⟨#[]⟩],.bool false]) (by simp [results,Tryz.results108,go_sem,F.1,F.2]) rfl ⟨HI.out,?_⟩;exact ((hB3.setCell sm_ _).setCell sm_ _)
def StrsAt (w:World) (a:Option Addr) (ss:List ByteArray):Prop:=
 ss=[]\/∃ b off,a=some ⟨b,off,none⟩/\b<w.heap.size/\∀ i,i<ss.length->w.cell? ⟨b,off+i,none⟩=some (.string (ss.getD i ByteArray.empty))
theorem info9:(prog.info? 9).map (fun i=>(i.zero,i.size,i.bytes))=some (some (.string ⟨#[]⟩),1,16):=kr_
theorem strs_some {w:World} {a:Option Addr} {ss:List ByteArray} (h:StrsAt w a ss):∃ b off,(ss=[]\/(a=some ⟨b,off,none⟩/\b<w.heap.size/\∀ i,i<ss.length->w.cell? ⟨b,off+i,none⟩=some (.string (ss.getD i ByteArray.empty)))):=by
 rcases h with h | ⟨b,off,h⟩
 · exact ⟨0,0,.inl h⟩
 · exact ⟨b,off,.inr h⟩
theorem strs_below {w w':World} {a:Option Addr} {ss:List ByteArray} (h:StrsAt w a ss) (hb:Below w.heap.size w w'):StrsAt w' a ss:=by
 rcases h with h | ⟨b,off,h1,h2,h3⟩
 · exact .inl h
 · exact .inr ⟨b,off,h1,Nat.lt_of_lt_of_le h2 hb.size,fun i hi=>by rw [hb.cell (by exact h2)];exact h3 i hi⟩
theorem getD_small {ss:List ByteArray} {B:Nat} (h:∀ i,i<ss.length->(ss.getD i ByteArray.empty).size<=B) (i:Nat):(ss.getD i ByteArray.empty).size<=B:=by
 rcases Nat.lt_or_ge i ss.length with h' | h'
 · exact h i h'
 · have e:ss.getD i ByteArray.empty=ByteArray.empty:=by simp [List.getD,List.getElem?_eq_none h']
   rw [e];exact Nat.zero_le _
theorem c4 (a:Option Addr) (cap:Nat) (ss:List ByteArray) (w:World) (hs:∀ i,(ss.getD i ByteArray.empty).size<=9223372036854775807) (hl:ss.length<=9223372036854775807) (hat:StrsAt w a ss):
 Calls prog 4 #[.slice a ss.length cap,.int .i64 1048576] w fun e w'=>(∃ r:Int,e=.returned (.int .i64 r)/\(0<=r->ss.length<=1048576/\(∀ i,(ss.getD i ByteArray.empty).size<=1048576)/\r<=1048576 - ss.length))/\w'=w:=by
 obtain ⟨b,off,hc⟩:=strs_some hat;have HC:Hid (ss=[]\/(a=some ⟨b,off,none⟩/\b<w.heap.size/\∀ i,i<ss.length->w.cell? ⟨b,off+i,none⟩=some (.string (ss.getD i ByteArray.empty)))):=hc;clear hc hat;by_cases hbig:1048576<ss.length
 · go_enter func4,ntmps4
   go_wp2;go_ret;exact ⟨⟨-1,rfl,fun h=>om_⟩,rfl⟩
 · go_enter func4,ntmps4
   go_wp2_with fail
   go_loop [1,5] (fun l i=>∃ (k:Nat) (r:Int),k<=ss.length/\i=.int .i64 k/\l=.int .i64 r/\0<=r/\r<=1048576 - ss.length/\Hid (∀ i,i<k->(ss.getD i ByteArray.empty).size<=1048576)) (fun _ i=>ss.length - (intOf i).toNat)
   case atStart=>exact ⟨0,_,Nat.zero_le _,rfl,rfl,om_,om_,fun i h=>absurd h (Nat.not_lt_zero _)⟩
   case round=>
    obtain ⟨k,r,hk,rfl,rfl,hr0,hr1,hsm⟩:=hrel;by_cases hlt:k<ss.length
    · rcases HC.out with hss | ⟨ha,hbw,hcell⟩
      · rw [hss] at hlt;exact absurd hlt (Nat.not_lt_zero _)
      subst ha;have g0:=hcell k hlt;have hxs:=hs k;generalize hx:ss.getD k ByteArray.empty=x at*;have HX:Hid (ss.getD k ByteArray.empty=x):=hx;clear hx hcell;by_cases hneg:r<x.size
      · go_wp2
        go_ret;exact ⟨⟨-1,rfl,fun h=>om_⟩,rfl⟩
      · have hsm':Hid (∀ i,i<k+1->(ss.getD i ByteArray.empty).size<=1048576):=by
         intro i h;rcases Nat.lt_or_ge i k with h1 | h1
         · exact hsm.out i h1
         · obtain rfl:i=k:=om_
           rw [HX.out];omega
        go_wp2
        go_round
        case rel=>exact ⟨k+1,_,om_,by go_num,rfl,om_,om_,hsm'⟩
        case measure=>simp [intOf];omega
    · have hsm':Hid (∀ i,(ss.getD i ByteArray.empty).size<=1048576):=getD_small (fun i h=>hsm.out i om_)
      go_wp2;go_ret;exact ⟨⟨r,rfl,fun _=>⟨om_,hsm'.out,hr1⟩⟩,rfl⟩
theorem c6 (a:Option Addr) (cap:Nat) (ss:List ByteArray) (w:World) (hl:ss.length<=1048576) (hat:StrsAt w a ss):
 Calls prog 6 #[.slice a ss.length cap] w fun e w'=>(e=.returned (.slice (some ⟨w.heap.size,0,none⟩) ss.length ss.length)/\StrsAt w' (some ⟨w.heap.size,0,none⟩) ss)/\Below w.heap.size w w':=by
 obtain ⟨b,off,hc⟩:=strs_some hat;have HC:Hid (ss=[]\/(a=some ⟨b,off,none⟩/\b<w.heap.size/\∀ i,i<ss.length->w.cell? ⟨b,off+i,none⟩=some (.string (ss.getD i ByteArray.empty)))):=hc;clear hc hat;obtain ⟨i0,hi,hz0,hz1,hz2⟩:=info_parts info9;have hmk:∀ u:World,(Instr.makeSlice 22 (.int .i64 (ss.length:Int)) (.int .i64 (ss.length:Int))).run prog u=
  .ok (.slice (some ⟨u.heap.size,0,none⟩) ss.length ss.length) (u.alloc (.cells (madeCells #[.string ⟨#[]⟩] ss.length) 9)):=fun u=>by
  have h:=run_make (P:=prog) u 22 9 i0 (.string ⟨#[]⟩) underlying22 hi hz0 .i64 .i64 (ss.length:Int) (ss.length:Int) om_ (Int.le_refl _) (by rw [hz2];omega) om_;simpa [hz1,Value.cells] using h
 go_enter func6,ntmps6
 go_wp2_with fail
 go_loopw [4] (fun i wr=>∃ (k:Nat),k<=ss.length/\i=.int .i64 k/\Below w.heap.size w wr/\w.heap.size+1<=wr.heap.size/\(∀ j,wr.frozen? ⟨w.heap.size,j,none⟩=false)/\Hid (∀ j,j<k->wr.cell? ⟨w.heap.size,j,none⟩=some (.string (ss.getD j ByteArray.empty)))/\Hid (∀ j,k<=j->j<ss.length->wr.cell? ⟨w.heap.size,j,none⟩=some (.string ⟨#[]⟩))) (fun i _=>ss.length - (intOf i).toNat)
 case atStart=>
  refine ⟨0,Nat.zero_le _,rfl,bA_,sm_,fun j=>sm_,fun j h=>absurd h (Nat.not_lt_zero _),fun j _ h=>?_⟩;have e:(madeCells #[Value.string ⟨#[]⟩] ss.length)[j]?=some (.string ⟨#[]⟩):=by
   rw [<- Array.getElem?_toList,toList_madeCells_one];simp [h]
  simp [e]
 case round=>
  obtain ⟨k,hk,rfl,hb,hz,hfz,hdone,hrest⟩:=hrel;by_cases hlt:k<ss.length
  · rcases HC.out with hss | ⟨ha,hbw,hcell⟩
    · rw [hss] at hlt;exact absurd hlt (Nat.not_lt_zero _)
    subst ha;have g0:wr.cell? ⟨b,off+k,none⟩=some (.string (ss.getD k ByteArray.empty)):=(hb.cell (by exact hbw)).trans (hcell k hlt);have g1:=hrest.out k lr_ hlt;have g2:=hfz k;generalize hx:ss.getD k ByteArray.empty=x at*;have HX:Hid (ss.getD k ByteArray.empty=x):=hx;clear hx hcell;go_wp2;go_roundw
    case rel=>
     refine ⟨k+1,om_,by go_num,hb.setCell sm_ _,by simpa using hz,fun j=>by rw [<- hfz j];simp,fun j hj=>?_,fun j h1 h2=>?_⟩
     · by_cases e:j=k
       · subst e
         rw [HX.out];exact World.cell?_setCell_same _ _ _ g1
       · rw [<- hdone.out j om_]
         exact World.cell?_setCell_other _ _ _ _ (by intro h;injection h with h1 h2;exact e h2.symm)
     · rw [<- hrest.out j om_ h2]
       exact World.cell?_setCell_other _ _ _ _ (by intro h;injection h with h3 h4;omega)
    case measure=>simp [intOf];omega
  · have hdone':Hid (StrsAt wr (some ⟨w.heap.size,0,none⟩) ss):=.inr ⟨w.heap.size,0,rfl,om_,fun i hi=>by rw [Nat.zero_add];exact hdone.out i om_⟩
    go_wp2;go_ret;exact ⟨⟨rfl,hdone'.out⟩,hb⟩
theorem c9 (a a':Option Addr) (cap cap':Nat) (ss:List ByteArray) (w:World) (hl:ss.length<=1048576) (hat:StrsAt w a ss) (hat':StrsAt w a' ss):
 Calls prog 9 #[.slice a ss.length cap,.slice a' ss.length cap'] w fun e w'=>e=.returned (.bool true)/\Below w.heap.size w w':=by
 obtain ⟨b,off,hc⟩:=strs_some hat;have HC:Hid (ss=[]\/(a=some ⟨b,off,none⟩/\b<w.heap.size/\∀ i,i<ss.length->w.cell? ⟨b,off+i,none⟩=some (.string (ss.getD i ByteArray.empty)))):=hc;clear hc hat;obtain ⟨b',off',hc'⟩:=strs_some hat';have HC':Hid (ss=[]\/(a'=some ⟨b',off',none⟩/\b'<w.heap.size/\∀ i,i<ss.length->w.cell? ⟨b',off'+i,none⟩=some (.string (ss.getD i ByteArray.empty)))):=hc';clear hc' hat';go_enter func9,ntmps9
 go_wp2_with fail
 go_loopw [5] (fun i wr=>∃ (k nq:Nat),k<=ss.length/\i=.int .i64 k/\wr=w.drewN nq) (fun i _=>ss.length - (intOf i).toNat)
 case atStart=>exact ⟨0,0,Nat.zero_le _,rfl,rfl⟩
 case round=>
  obtain ⟨k,nq,hk,rfl,rfl⟩:=hrel;by_cases hlt:k<ss.length
  · rcases HC.out with hss | ⟨ha,hbw,hcell⟩
    · rw [hss] at hlt;exact absurd hlt (Nat.not_lt_zero _)
    rcases HC'.out with hss | ⟨ha',hbw',hcell'⟩
    · rw [hss] at hlt;exact absurd hlt (Nat.not_lt_zero _)
    subst ha;subst ha';have g0:=hcell k hlt;have g1:=hcell' k hlt;generalize ss.getD k ByteArray.empty=x at*;clear hcell hcell'
    go_wp2_with fail
    go_quiet (fail)
    go_wp2;go_roundw
    case rel=>exact ⟨k+1,_,om_,by go_num,rfl⟩
    case measure=>simp [intOf];omega
  · go_wp2
    go_ret;exact ⟨rfl,below_drewN _⟩
end Go.Proofs.YtlckdgjfniglfaaGreatDoor
